/-
  The contracts of the document's calls.
-/
import Derived.Test.YtejcjjimhaokfaaDoorDcG
namespace Go.Proofs.YtejcjjimhaokfaaDoor.Dcl
open Go.RowKit Go.Proofs.YtejcjjimhaokfaaDoor.Num Go.Proofs.YtejcjjimhaokfaaDoor.Up Go.Proofs.YtejcjjimhaokfaaDoor.Tn
set_option maxRecDepth 100000 in
set_option maxHeartbeats 1000000 in
theorem ref_bucketed_any (x0 : BitVec 64)    (w : World) :
    Calls Tryd.prog 32 #[.int .i64 (ti (x0))] w fun e w' => e = .returned (.bool ((bif (bif (x0 == 4#64) then true else (x0 == 8#64)) then true else (x0 == 10#64)))) ∧ Below w.heap.size w w' := by
  go_enter Tryd.func32, Tryd.ntmps32
  have HS := hid (st_nil w)
  -- region 1
  go_upto_region 1 with fail
  refine lin_begin (St w []) rfl HS.out ?_
  refine lin_val (i := 0) (v := .int .i64 (ti (x0))) rfl rfl (by rfl) (by intro x hx; go_simp; (first | done | exact rfl)) ?_
  simp only [List.set_cons_succ, List.set_cons_zero]
  refine lin_val (i := 1) (v := .bool ((x0 == 4#64))) rfl rfl (by rfl) (by intro x hx; go_simp; (first | done | exact eqIT x0 4#64 | exact congrArg _ (eqIT x0 4#64) | (rw [eqIT x0 4#64]; done) | (rw [eqIT x0 4#64]; rfl))) ?_
  simp only [List.set_cons_succ, List.set_cons_zero]
  refine lin_val (i := 2) (v := .bool ((x0 == 4#64))) rfl rfl (by rfl) (by intro x hx; go_simp; (first | done | exact rfl)) ?_
  simp only [List.set_cons_succ, List.set_cons_zero]
  refine lin_if (i := 3) (v := .int .i64 (ti (x0))) (!(x0 == 4#64)) rfl rfl (by generalize (x0 == 4#64) = gg0; cases gg0 <;> rfl) (by intro hb; have hb8 := hid (show ((x0 == 4#64)) = false from nnb hb); intro x hx; (try simp only [hb]); (try simp only [cond_true]); go_simp; (first | done | exact rfl)) ?_
  simp only [List.set_cons_succ, List.set_cons_zero]
  refine lin_if (i := 4) (v := .bool ((x0 == 8#64))) (!(x0 == 4#64)) rfl rfl (by generalize (x0 == 4#64) = gg0; cases gg0 <;> rfl) (by intro hb; have hb9 := hid (show ((x0 == 4#64)) = false from nnb hb); intro x hx; (try simp only [hb]); (try simp only [cond_true]); go_simp; (first | done | exact eqIT x0 8#64 | exact congrArg _ (eqIT x0 8#64) | (rw [eqIT x0 8#64]; done) | (rw [eqIT x0 8#64]; rfl))) ?_
  simp only [List.set_cons_succ, List.set_cons_zero]
  refine lin_val (i := 5) (v := .bool ((bif (x0 == 4#64) then true else (x0 == 8#64)))) rfl rfl (by rfl) (by intro x hx; (cases hq : ((x0 == 4#64)) <;> first | rfl | (simp only [hq]; rfl) | simp [hq])) ?_
  simp only [List.set_cons_succ, List.set_cons_zero]
  refine lin_val (i := 6) (v := .bool ((bif (x0 == 4#64) then true else (x0 == 8#64)))) rfl rfl (by rfl) (by intro x hx; go_simp; (first | done | exact rfl)) ?_
  simp only [List.set_cons_succ, List.set_cons_zero]
  refine lin_if (i := 7) (v := .int .i64 (ti (x0))) (!(bif (x0 == 4#64) then true else (x0 == 8#64))) rfl rfl (by generalize (bif (x0 == 4#64) then true else (x0 == 8#64)) = gg0; cases gg0 <;> rfl) (by intro hb; have hb10 := hid (show ((bif (x0 == 4#64) then true else (x0 == 8#64))) = false from nnb hb); intro x hx; (try simp only [hb]); (try simp only [cond_true]); go_simp; (first | done | exact rfl)) ?_
  simp only [List.set_cons_succ, List.set_cons_zero]
  refine lin_if (i := 8) (v := .bool ((x0 == 10#64))) (!(bif (x0 == 4#64) then true else (x0 == 8#64))) rfl rfl (by generalize (bif (x0 == 4#64) then true else (x0 == 8#64)) = gg0; cases gg0 <;> rfl) (by intro hb; have hb11 := hid (show ((bif (x0 == 4#64) then true else (x0 == 8#64))) = false from nnb hb); intro x hx; (try simp only [hb]); (try simp only [cond_true]); go_simp; (first | done | exact eqIT x0 10#64 | exact congrArg _ (eqIT x0 10#64) | (rw [eqIT x0 10#64]; done) | (rw [eqIT x0 10#64]; rfl))) ?_
  simp only [List.set_cons_succ, List.set_cons_zero]
  refine lin_val (i := 9) (v := .bool ((bif (bif (x0 == 4#64) then true else (x0 == 8#64)) then true else (x0 == 10#64)))) rfl rfl (by rfl) (by intro x hx; (cases hq : ((bif (x0 == 4#64) then true else (x0 == 8#64))) <;> first | rfl | (simp only [hq]; rfl) | simp [hq])) ?_
  simp only [List.set_cons_succ, List.set_cons_zero]
  refine lin_val (i := 10) (v := .bool ((bif (bif (x0 == 4#64) then true else (x0 == 8#64)) then true else (x0 == 10#64)))) rfl rfl (by rfl) (by intro x hx; go_simp; (first | done | exact rfl)) ?_
  simp only [List.set_cons_succ, List.set_cons_zero]
  refine lin_done ?_
  intro W1 hx
  replace HS := hid hx
  clear hx
  go_wp2
  exact bodyPost_ret (v := .bool ((bif (bif (x0 == 4#64) then true else (x0 == 8#64)) then true else (x0 == 10#64)))) (by simp [results, Tryd.results32, go_sem]) rfl ⟨rfl, HS.out.below⟩
set_option maxRecDepth 100000 in
set_option maxHeartbeats 1000000 in
theorem ref_Nested_any (x0 : BitVec 64)    (w : World) :
    Calls Tryd.prog 26 #[.int .i64 (ti (x0))] w fun e w' => e = .returned (.bool ((bif (x0 == 9#64) then true else (x0 == 10#64)))) ∧ Below w.heap.size w w' := by
  go_enter Tryd.func26, Tryd.ntmps26
  have HS := hid (st_nil w)
  -- region 1
  go_upto_region 1 with fail
  refine lin_begin (St w []) rfl HS.out ?_
  refine lin_val (i := 0) (v := .int .i64 (ti (x0))) rfl rfl (by rfl) (by intro x hx; go_simp; (first | done | exact rfl)) ?_
  simp only [List.set_cons_succ, List.set_cons_zero]
  refine lin_val (i := 1) (v := .bool ((x0 == 9#64))) rfl rfl (by rfl) (by intro x hx; go_simp; (first | done | exact eqIT x0 9#64 | exact congrArg _ (eqIT x0 9#64) | (rw [eqIT x0 9#64]; done) | (rw [eqIT x0 9#64]; rfl))) ?_
  simp only [List.set_cons_succ, List.set_cons_zero]
  refine lin_val (i := 2) (v := .bool ((x0 == 9#64))) rfl rfl (by rfl) (by intro x hx; go_simp; (first | done | exact rfl)) ?_
  simp only [List.set_cons_succ, List.set_cons_zero]
  refine lin_if (i := 3) (v := .int .i64 (ti (x0))) (!(x0 == 9#64)) rfl rfl (by generalize (x0 == 9#64) = gg0; cases gg0 <;> rfl) (by intro hb; have hb12 := hid (show ((x0 == 9#64)) = false from nnb hb); intro x hx; (try simp only [hb]); (try simp only [cond_true]); go_simp; (first | done | exact rfl)) ?_
  simp only [List.set_cons_succ, List.set_cons_zero]
  refine lin_if (i := 4) (v := .bool ((x0 == 10#64))) (!(x0 == 9#64)) rfl rfl (by generalize (x0 == 9#64) = gg0; cases gg0 <;> rfl) (by intro hb; have hb13 := hid (show ((x0 == 9#64)) = false from nnb hb); intro x hx; (try simp only [hb]); (try simp only [cond_true]); go_simp; (first | done | exact eqIT x0 10#64 | exact congrArg _ (eqIT x0 10#64) | (rw [eqIT x0 10#64]; done) | (rw [eqIT x0 10#64]; rfl))) ?_
  simp only [List.set_cons_succ, List.set_cons_zero]
  refine lin_val (i := 5) (v := .bool ((bif (x0 == 9#64) then true else (x0 == 10#64)))) rfl rfl (by rfl) (by intro x hx; (cases hq : ((x0 == 9#64)) <;> first | rfl | (simp only [hq]; rfl) | simp [hq])) ?_
  simp only [List.set_cons_succ, List.set_cons_zero]
  refine lin_val (i := 6) (v := .bool ((bif (x0 == 9#64) then true else (x0 == 10#64)))) rfl rfl (by rfl) (by intro x hx; go_simp; (first | done | exact rfl)) ?_
  simp only [List.set_cons_succ, List.set_cons_zero]
  refine lin_done ?_
  intro W1 hx
  replace HS := hid hx
  clear hx
  go_wp2
  exact bodyPost_ret (v := .bool ((bif (x0 == 9#64) then true else (x0 == 10#64)))) (by simp [results, Tryd.results26, go_sem]) rfl ⟨rfl, HS.out.below⟩
def ref_power (x0 : BitVec 64)  : Bool :=
  (bif (bif (bif (bif (bif (x0 == 1#64) then true else (x0 == 2#64)) then true else (x0 == 4#64)) then true else (x0 == 8#64)) then true else (x0 == 16#64)) then true else (x0 == 32#64))
set_option maxRecDepth 100000 in
set_option maxHeartbeats 1000000 in
theorem ref_power_any (x0 : BitVec 64)    (w : World) :
    Calls Tryd.prog 33 #[.int .i64 (ti (x0))] w fun e w' => e = .returned (.bool (ref_power x0)) ∧ Below w.heap.size w w' := by
  go_enter Tryd.func33, Tryd.ntmps33
  have HS := hid (st_nil w)
  -- region 1
  go_upto_region 1 with fail
  refine lin_begin (St w []) rfl HS.out ?_
  refine lin_val (i := 0) (v := .int .i64 (ti (x0))) rfl rfl (by rfl) (by intro x hx; go_simp; (first | done | exact rfl)) ?_
  simp only [List.set_cons_succ, List.set_cons_zero]
  refine lin_val (i := 1) (v := .bool ((x0 == 1#64))) rfl rfl (by rfl) (by intro x hx; go_simp; (first | done | exact eqIT x0 1#64 | exact congrArg _ (eqIT x0 1#64) | (rw [eqIT x0 1#64]; done) | (rw [eqIT x0 1#64]; rfl))) ?_
  simp only [List.set_cons_succ, List.set_cons_zero]
  refine lin_val (i := 2) (v := .bool ((x0 == 1#64))) rfl rfl (by rfl) (by intro x hx; go_simp; (first | done | exact rfl)) ?_
  simp only [List.set_cons_succ, List.set_cons_zero]
  refine lin_if (i := 3) (v := .int .i64 (ti (x0))) (!(x0 == 1#64)) rfl rfl (by generalize (x0 == 1#64) = gg0; cases gg0 <;> rfl) (by intro hb; have hb14 := hid (show ((x0 == 1#64)) = false from nnb hb); intro x hx; (try simp only [hb]); (try simp only [cond_true]); go_simp; (first | done | exact rfl)) ?_
  simp only [List.set_cons_succ, List.set_cons_zero]
  refine lin_if (i := 4) (v := .bool ((x0 == 2#64))) (!(x0 == 1#64)) rfl rfl (by generalize (x0 == 1#64) = gg0; cases gg0 <;> rfl) (by intro hb; have hb15 := hid (show ((x0 == 1#64)) = false from nnb hb); intro x hx; (try simp only [hb]); (try simp only [cond_true]); go_simp; (first | done | exact eqIT x0 2#64 | exact congrArg _ (eqIT x0 2#64) | (rw [eqIT x0 2#64]; done) | (rw [eqIT x0 2#64]; rfl))) ?_
  simp only [List.set_cons_succ, List.set_cons_zero]
  refine lin_val (i := 5) (v := .bool ((bif (x0 == 1#64) then true else (x0 == 2#64)))) rfl rfl (by rfl) (by intro x hx; (cases hq : ((x0 == 1#64)) <;> first | rfl | (simp only [hq]; rfl) | simp [hq])) ?_
  simp only [List.set_cons_succ, List.set_cons_zero]
  refine lin_val (i := 6) (v := .bool ((bif (x0 == 1#64) then true else (x0 == 2#64)))) rfl rfl (by rfl) (by intro x hx; go_simp; (first | done | exact rfl)) ?_
  simp only [List.set_cons_succ, List.set_cons_zero]
  refine lin_if (i := 7) (v := .int .i64 (ti (x0))) (!(bif (x0 == 1#64) then true else (x0 == 2#64))) rfl rfl (by generalize (bif (x0 == 1#64) then true else (x0 == 2#64)) = gg0; cases gg0 <;> rfl) (by intro hb; have hb16 := hid (show ((bif (x0 == 1#64) then true else (x0 == 2#64))) = false from nnb hb); intro x hx; (try simp only [hb]); (try simp only [cond_true]); go_simp; (first | done | exact rfl)) ?_
  simp only [List.set_cons_succ, List.set_cons_zero]
  refine lin_if (i := 8) (v := .bool ((x0 == 4#64))) (!(bif (x0 == 1#64) then true else (x0 == 2#64))) rfl rfl (by generalize (bif (x0 == 1#64) then true else (x0 == 2#64)) = gg0; cases gg0 <;> rfl) (by intro hb; have hb17 := hid (show ((bif (x0 == 1#64) then true else (x0 == 2#64))) = false from nnb hb); intro x hx; (try simp only [hb]); (try simp only [cond_true]); go_simp; (first | done | exact eqIT x0 4#64 | exact congrArg _ (eqIT x0 4#64) | (rw [eqIT x0 4#64]; done) | (rw [eqIT x0 4#64]; rfl))) ?_
  simp only [List.set_cons_succ, List.set_cons_zero]
  refine lin_val (i := 9) (v := .bool ((bif (bif (x0 == 1#64) then true else (x0 == 2#64)) then true else (x0 == 4#64)))) rfl rfl (by rfl) (by intro x hx; (cases hq : ((bif (x0 == 1#64) then true else (x0 == 2#64))) <;> first | rfl | (simp only [hq]; rfl) | simp [hq])) ?_
  simp only [List.set_cons_succ, List.set_cons_zero]
  refine lin_val (i := 10) (v := .bool ((bif (bif (x0 == 1#64) then true else (x0 == 2#64)) then true else (x0 == 4#64)))) rfl rfl (by rfl) (by intro x hx; go_simp; (first | done | exact rfl)) ?_
  simp only [List.set_cons_succ, List.set_cons_zero]
  refine lin_if (i := 11) (v := .int .i64 (ti (x0))) (!(bif (bif (x0 == 1#64) then true else (x0 == 2#64)) then true else (x0 == 4#64))) rfl rfl (by generalize (bif (bif (x0 == 1#64) then true else (x0 == 2#64)) then true else (x0 == 4#64)) = gg0; cases gg0 <;> rfl) (by intro hb; have hb18 := hid (show ((bif (bif (x0 == 1#64) then true else (x0 == 2#64)) then true else (x0 == 4#64))) = false from nnb hb); intro x hx; (try simp only [hb]); (try simp only [cond_true]); go_simp; (first | done | exact rfl)) ?_
  simp only [List.set_cons_succ, List.set_cons_zero]
  refine lin_if (i := 12) (v := .bool ((x0 == 8#64))) (!(bif (bif (x0 == 1#64) then true else (x0 == 2#64)) then true else (x0 == 4#64))) rfl rfl (by generalize (bif (bif (x0 == 1#64) then true else (x0 == 2#64)) then true else (x0 == 4#64)) = gg0; cases gg0 <;> rfl) (by intro hb; have hb19 := hid (show ((bif (bif (x0 == 1#64) then true else (x0 == 2#64)) then true else (x0 == 4#64))) = false from nnb hb); intro x hx; (try simp only [hb]); (try simp only [cond_true]); go_simp; (first | done | exact eqIT x0 8#64 | exact congrArg _ (eqIT x0 8#64) | (rw [eqIT x0 8#64]; done) | (rw [eqIT x0 8#64]; rfl))) ?_
  simp only [List.set_cons_succ, List.set_cons_zero]
  refine lin_val (i := 13) (v := .bool ((bif (bif (bif (x0 == 1#64) then true else (x0 == 2#64)) then true else (x0 == 4#64)) then true else (x0 == 8#64)))) rfl rfl (by rfl) (by intro x hx; (cases hq : ((bif (bif (x0 == 1#64) then true else (x0 == 2#64)) then true else (x0 == 4#64))) <;> first | rfl | (simp only [hq]; rfl) | simp [hq])) ?_
  simp only [List.set_cons_succ, List.set_cons_zero]
  refine lin_val (i := 14) (v := .bool ((bif (bif (bif (x0 == 1#64) then true else (x0 == 2#64)) then true else (x0 == 4#64)) then true else (x0 == 8#64)))) rfl rfl (by rfl) (by intro x hx; go_simp; (first | done | exact rfl)) ?_
  simp only [List.set_cons_succ, List.set_cons_zero]
  refine lin_if (i := 15) (v := .int .i64 (ti (x0))) (!(bif (bif (bif (x0 == 1#64) then true else (x0 == 2#64)) then true else (x0 == 4#64)) then true else (x0 == 8#64))) rfl rfl (by generalize (bif (bif (bif (x0 == 1#64) then true else (x0 == 2#64)) then true else (x0 == 4#64)) then true else (x0 == 8#64)) = gg0; cases gg0 <;> rfl) (by intro hb; have hb20 := hid (show ((bif (bif (bif (x0 == 1#64) then true else (x0 == 2#64)) then true else (x0 == 4#64)) then true else (x0 == 8#64))) = false from nnb hb); intro x hx; (try simp only [hb]); (try simp only [cond_true]); go_simp; (first | done | exact rfl)) ?_
  simp only [List.set_cons_succ, List.set_cons_zero]
  refine lin_if (i := 16) (v := .bool ((x0 == 16#64))) (!(bif (bif (bif (x0 == 1#64) then true else (x0 == 2#64)) then true else (x0 == 4#64)) then true else (x0 == 8#64))) rfl rfl (by generalize (bif (bif (bif (x0 == 1#64) then true else (x0 == 2#64)) then true else (x0 == 4#64)) then true else (x0 == 8#64)) = gg0; cases gg0 <;> rfl) (by intro hb; have hb21 := hid (show ((bif (bif (bif (x0 == 1#64) then true else (x0 == 2#64)) then true else (x0 == 4#64)) then true else (x0 == 8#64))) = false from nnb hb); intro x hx; (try simp only [hb]); (try simp only [cond_true]); go_simp; (first | done | exact eqIT x0 16#64 | exact congrArg _ (eqIT x0 16#64) | (rw [eqIT x0 16#64]; done) | (rw [eqIT x0 16#64]; rfl))) ?_
  simp only [List.set_cons_succ, List.set_cons_zero]
  refine lin_val (i := 17) (v := .bool ((bif (bif (bif (bif (x0 == 1#64) then true else (x0 == 2#64)) then true else (x0 == 4#64)) then true else (x0 == 8#64)) then true else (x0 == 16#64)))) rfl rfl (by rfl) (by intro x hx; (cases hq : ((bif (bif (bif (x0 == 1#64) then true else (x0 == 2#64)) then true else (x0 == 4#64)) then true else (x0 == 8#64))) <;> first | rfl | (simp only [hq]; rfl) | simp [hq])) ?_
  simp only [List.set_cons_succ, List.set_cons_zero]
  refine lin_val (i := 18) (v := .bool ((bif (bif (bif (bif (x0 == 1#64) then true else (x0 == 2#64)) then true else (x0 == 4#64)) then true else (x0 == 8#64)) then true else (x0 == 16#64)))) rfl rfl (by rfl) (by intro x hx; go_simp; (first | done | exact rfl)) ?_
  simp only [List.set_cons_succ, List.set_cons_zero]
  refine lin_if (i := 19) (v := .int .i64 (ti (x0))) (!(bif (bif (bif (bif (x0 == 1#64) then true else (x0 == 2#64)) then true else (x0 == 4#64)) then true else (x0 == 8#64)) then true else (x0 == 16#64))) rfl rfl (by generalize (bif (bif (bif (bif (x0 == 1#64) then true else (x0 == 2#64)) then true else (x0 == 4#64)) then true else (x0 == 8#64)) then true else (x0 == 16#64)) = gg0; cases gg0 <;> rfl) (by intro hb; have hb22 := hid (show ((bif (bif (bif (bif (x0 == 1#64) then true else (x0 == 2#64)) then true else (x0 == 4#64)) then true else (x0 == 8#64)) then true else (x0 == 16#64))) = false from nnb hb); intro x hx; (try simp only [hb]); (try simp only [cond_true]); go_simp; (first | done | exact rfl)) ?_
  simp only [List.set_cons_succ, List.set_cons_zero]
  refine lin_if (i := 20) (v := .bool ((x0 == 32#64))) (!(bif (bif (bif (bif (x0 == 1#64) then true else (x0 == 2#64)) then true else (x0 == 4#64)) then true else (x0 == 8#64)) then true else (x0 == 16#64))) rfl rfl (by generalize (bif (bif (bif (bif (x0 == 1#64) then true else (x0 == 2#64)) then true else (x0 == 4#64)) then true else (x0 == 8#64)) then true else (x0 == 16#64)) = gg0; cases gg0 <;> rfl) (by intro hb; have hb23 := hid (show ((bif (bif (bif (bif (x0 == 1#64) then true else (x0 == 2#64)) then true else (x0 == 4#64)) then true else (x0 == 8#64)) then true else (x0 == 16#64))) = false from nnb hb); intro x hx; (try simp only [hb]); (try simp only [cond_true]); go_simp; (first | done | exact eqIT x0 32#64 | exact congrArg _ (eqIT x0 32#64) | (rw [eqIT x0 32#64]; done) | (rw [eqIT x0 32#64]; rfl))) ?_
  simp only [List.set_cons_succ, List.set_cons_zero]
  refine lin_val (i := 21) (v := .bool ((bif (bif (bif (bif (bif (x0 == 1#64) then true else (x0 == 2#64)) then true else (x0 == 4#64)) then true else (x0 == 8#64)) then true else (x0 == 16#64)) then true else (x0 == 32#64)))) rfl rfl (by rfl) (by intro x hx; (cases hq : ((bif (bif (bif (bif (x0 == 1#64) then true else (x0 == 2#64)) then true else (x0 == 4#64)) then true else (x0 == 8#64)) then true else (x0 == 16#64))) <;> first | rfl | (simp only [hq]; rfl) | simp [hq])) ?_
  simp only [List.set_cons_succ, List.set_cons_zero]
  refine lin_val (i := 22) (v := .bool ((bif (bif (bif (bif (bif (x0 == 1#64) then true else (x0 == 2#64)) then true else (x0 == 4#64)) then true else (x0 == 8#64)) then true else (x0 == 16#64)) then true else (x0 == 32#64)))) rfl rfl (by rfl) (by intro x hx; go_simp; (first | done | exact rfl)) ?_
  simp only [List.set_cons_succ, List.set_cons_zero]
  refine lin_done ?_
  intro W1 hx
  replace HS := hid hx
  clear hx
  go_wp2
  have HF : ref_power x0 = (bif (bif (bif (bif (bif (x0 == 1#64) then true else (x0 == 2#64)) then true else (x0 == 4#64)) then true else (x0 == 8#64)) then true else (x0 == 16#64)) then true else (x0 == 32#64)) := by
    unfold ref_power
    rfl
  exact bodyPost_ret (v := .bool ((bif (bif (bif (bif (bif (x0 == 1#64) then true else (x0 == 2#64)) then true else (x0 == 4#64)) then true else (x0 == 8#64)) then true else (x0 == 16#64)) then true else (x0 == 32#64)))) (by simp [results, Tryd.results33, go_sem]) rfl ⟨(by first | (rw [HF]; done) | (rw [HF]; rfl)), HS.out.below⟩
def ref_Bucket (x0 : BitVec 64) (x1 : BitVec 64)  : BitVec 64 :=
  bif ltI x1 1#64 then (0#64) else (((x0 * 11400714819323198485#64) / 4294967296#64) % x1)
set_option maxRecDepth 100000 in
set_option maxHeartbeats 1000000 in
theorem ref_Bucket_any (x0 : BitVec 64) (x1 : BitVec 64)    (w : World) :
    Calls Tryd.prog 20 #[.int .u64 (tn (x0)), .int .i64 (ti (x1))] w fun e w' => e = .returned (.int .i64 (ti (ref_Bucket x0 x1))) ∧ Below w.heap.size w w' := by
  go_enter Tryd.func20, Tryd.ntmps20
  have HS := hid (st_nil w)
  -- region 1
  go_upto_region 1 with fail
  refine lin_begin (St w []) rfl HS.out ?_
  refine lin_val (i := 0) (v := .int .i64 (ti (x1))) rfl rfl (by rfl) (by intro x hx; go_simp; (first | done | exact rfl)) ?_
  simp only [List.set_cons_succ, List.set_cons_zero]
  refine lin_val (i := 1) (v := .bool (ltI x1 1#64)) rfl rfl (by rfl) (by intro x hx; go_simp; (first | done | exact ltIT x1 1#64 | exact congrArg _ (ltIT x1 1#64) | (rw [ltIT x1 1#64]; done) | (rw [ltIT x1 1#64]; rfl))) ?_
  simp only [List.set_cons_succ, List.set_cons_zero]
  refine lin_done ?_
  intro W1 hx
  replace HS := hid hx
  clear hx
  cases h1 : (ltI x1 1#64)
  · replace h1 := hid h1
    -- region 3
    go_upto_region 3 with fail
    refine lin_begin (St w []) rfl HS.out ?_
    refine lin_val (i := 0) (v := .int .u64 (tn (x0))) rfl rfl (by rfl) (by intro x hx; go_simp; (first | done | exact rfl)) ?_
    simp only [List.set_cons_succ, List.set_cons_zero]
    refine lin_val (i := 1) (v := .int .u64 (tn (x0 * 11400714819323198485#64))) rfl rfl (by rfl) (by intro x hx; go_simp; (first | done | exact mulUT x0 11400714819323198485#64 | exact congrArg _ (mulUT x0 11400714819323198485#64) | (rw [mulUT x0 11400714819323198485#64]; done) | (rw [mulUT x0 11400714819323198485#64]; rfl))) ?_
    simp only [List.set_cons_succ, List.set_cons_zero]
    refine lin_val (i := 2) (v := .int .u64 (tn (x0 * 11400714819323198485#64))) rfl rfl (by rfl) (by intro x hx; go_simp; (first | done | exact rfl)) ?_
    simp only [List.set_cons_succ, List.set_cons_zero]
    refine lin_done ?_
    intro W2 hx
    replace HS := hid hx
    clear hx
    -- region 4
    go_upto_region 4 with fail
    refine lin_begin (St w []) rfl HS.out ?_
    refine lin_val (i := 0) (v := .int .u64 (tn (x0 * 11400714819323198485#64))) rfl rfl (by rfl) (by intro x hx; go_simp; (first | done | exact rfl)) ?_
    simp only [List.set_cons_succ, List.set_cons_zero]
    refine lin_val (i := 1) (v := .int .u64 (tn ((x0 * 11400714819323198485#64) / 4294967296#64))) rfl rfl (by rfl) (by intro x hx; go_simp; (first | done | exact quoUT (x0 * 11400714819323198485#64) 4294967296#64 | exact congrArg _ (quoUT (x0 * 11400714819323198485#64) 4294967296#64) | (rw [quoUT (x0 * 11400714819323198485#64) 4294967296#64]; done) | (rw [quoUT (x0 * 11400714819323198485#64) 4294967296#64]; rfl))) ?_
    simp only [List.set_cons_succ, List.set_cons_zero]
    refine lin_val (i := 2) (v := .int .i64 (ti (x1))) rfl rfl (by rfl) (by intro x hx; go_simp; (first | done | exact rfl)) ?_
    simp only [List.set_cons_succ, List.set_cons_zero]
    refine lin_val (i := 3) (v := .int .u64 (tn (x1))) rfl rfl (by rfl) (by intro x hx; go_simp; (first | done | exact backI x1 | exact congrArg _ (backI x1) | (rw [backI x1]; done) | (rw [backI x1]; rfl))) ?_
    simp only [List.set_cons_succ, List.set_cons_zero]
    refine lin_val (i := 4) (v := .int .u64 (tn (((x0 * 11400714819323198485#64) / 4294967296#64) % x1))) rfl rfl (by rfl) (by intro x hx; have hy := ne0U (nz_of h1.out); go_simp; (first | done | exact (if_neg hy).trans (congrArg (fun v => Result.ok (Next.value (Value.int .u64 v)) x) (remUT ((x0 * 11400714819323198485#64) / 4294967296#64) x1)) | exact remUT ((x0 * 11400714819323198485#64) / 4294967296#64) x1 | exact congrArg _ (remUT ((x0 * 11400714819323198485#64) / 4294967296#64) x1) | (rw [remUT ((x0 * 11400714819323198485#64) / 4294967296#64) x1]; done) | (rw [remUT ((x0 * 11400714819323198485#64) / 4294967296#64) x1]; rfl))) ?_
    simp only [List.set_cons_succ, List.set_cons_zero]
    refine lin_val (i := 5) (v := .int .i64 (ti (((x0 * 11400714819323198485#64) / 4294967296#64) % x1))) rfl rfl (by rfl) (by intro x hx; go_simp; (first | done | exact toI64 (((x0 * 11400714819323198485#64) / 4294967296#64) % x1) | exact congrArg _ (toI64 (((x0 * 11400714819323198485#64) / 4294967296#64) % x1)) | (rw [toI64 (((x0 * 11400714819323198485#64) / 4294967296#64) % x1)]; done) | (rw [toI64 (((x0 * 11400714819323198485#64) / 4294967296#64) % x1)]; rfl))) ?_
    simp only [List.set_cons_succ, List.set_cons_zero]
    refine lin_val (i := 6) (v := .int .i64 (ti (((x0 * 11400714819323198485#64) / 4294967296#64) % x1))) rfl rfl (by rfl) (by intro x hx; go_simp; (first | done | exact rfl)) ?_
    simp only [List.set_cons_succ, List.set_cons_zero]
    refine lin_done ?_
    intro W3 hx
    replace HS := hid hx
    clear hx
    go_wp2
    have HF : ref_Bucket x0 x1 = ((x0 * 11400714819323198485#64) / 4294967296#64) % x1 := by
      unfold ref_Bucket
      rw [cond_f h1.out]
    exact bodyPost_ret (v := .int .i64 (ti (((x0 * 11400714819323198485#64) / 4294967296#64) % x1))) (by simp [results, Tryd.results20, go_sem]) rfl ⟨(by first | (rw [HF]; done) | (rw [HF]; rfl)), HS.out.below⟩
  · replace h1 := hid h1
    -- region 2
    go_upto_region 2 with fail
    refine lin_begin (St w []) rfl HS.out ?_
    refine lin_val (i := 0) (v := .int .i64 0) rfl rfl (by rfl) (by intro x hx; go_simp; (first | done | exact rfl)) ?_
    simp only [List.set_cons_succ, List.set_cons_zero]
    refine lin_done ?_
    intro W2 hx
    replace HS := hid hx
    clear hx
    go_wp2
    have HF : ref_Bucket x0 x1 = 0#64 := by
      unfold ref_Bucket
      rw [cond_t h1.out]
    exact bodyPost_ret (v := .int .i64 0) (by simp [results, Tryd.results20, go_sem]) rfl ⟨(by first | (rw [HF]; done) | (rw [HF]; rfl)), HS.out.below⟩
def ref_Like (x0 : Dc) (x1 : Dc)  : Bool :=
  (bif (bif (bif (bif (x0.kind == x1.kind) then (x0.entries == x1.entries) else false) then (x0.words == x1.words) else false) then (x0.buckets == x1.buckets) else false) then (x0.inner == x1.inner) else false)
set_option maxRecDepth 100000 in
set_option maxHeartbeats 1000000 in
theorem ref_Like_any (x0 : Dc) (x1 : Dc)    (w : World) :
    Calls Tryd.prog 16 #[.agg #[.int .i64 (ti (x0.kind)), .int .i64 (ti (x0.entries)), .int .i64 (ti (x0.words)), .int .i64 (ti (x0.buckets)), .int .i64 (ti (x0.inner))], .agg #[.int .i64 (ti (x1.kind)), .int .i64 (ti (x1.entries)), .int .i64 (ti (x1.words)), .int .i64 (ti (x1.buckets)), .int .i64 (ti (x1.inner))]] w fun e w' => e = .returned (.bool (ref_Like x0 x1)) ∧ Below w.heap.size w w' := by
  go_enter Tryd.func16, Tryd.ntmps16
  have HS := hid (((st_nil w).alloc (k := w.heap.size) rfl [.int .i64 (ti (x0.kind)), .int .i64 (ti (x0.entries)), .int .i64 (ti (x0.words)), .int .i64 (ti (x0.buckets)), .int .i64 (ti (x0.inner))] 30).alloc (k := w.heap.size + 1) (by simp) [.int .i64 (ti (x1.kind)), .int .i64 (ti (x1.entries)), .int .i64 (ti (x1.words)), .int .i64 (ti (x1.buckets)), .int .i64 (ti (x1.inner))] 30)
  -- region 1
  go_upto_region 1 with fail
  refine lin_begin (St w [⟨w.heap.size, [some (.int .i64 (ti (x0.kind))), some (.int .i64 (ti (x0.entries))), some (.int .i64 (ti (x0.words))), some (.int .i64 (ti (x0.buckets))), some (.int .i64 (ti (x0.inner)))], 30⟩, ⟨w.heap.size + 1, [some (.int .i64 (ti (x1.kind))), some (.int .i64 (ti (x1.entries))), some (.int .i64 (ti (x1.words))), some (.int .i64 (ti (x1.buckets))), some (.int .i64 (ti (x1.inner)))], 30⟩]) rfl HS.out ?_
  refine lin_val (i := 0) (v := .pointer (some ⟨w.heap.size, 0, none⟩)) rfl rfl (by rfl) (by intro x hx; go_simp; (first | done | exact rfl)) ?_
  simp only [List.set_cons_succ, List.set_cons_zero]
  refine lin_val (i := 1) (v := .int .i64 (ti (x0.kind))) rfl rfl (by rfl) (by intro x hx; have f0 := hx.load 0 0 rfl rfl; go_simp; (first | done | exact rfl)) ?_
  simp only [List.set_cons_succ, List.set_cons_zero]
  refine lin_val (i := 2) (v := .pointer (some ⟨w.heap.size + 1, 0, none⟩)) rfl rfl (by rfl) (by intro x hx; go_simp; (first | done | exact rfl)) ?_
  simp only [List.set_cons_succ, List.set_cons_zero]
  refine lin_val (i := 3) (v := .int .i64 (ti (x1.kind))) rfl rfl (by rfl) (by intro x hx; have f0 := hx.load 1 0 rfl rfl; go_simp; (first | done | exact rfl)) ?_
  simp only [List.set_cons_succ, List.set_cons_zero]
  refine lin_val (i := 4) (v := .bool ((x0.kind == x1.kind))) rfl rfl (by rfl) (by intro x hx; go_simp; (first | done | exact eqIT x0.kind x1.kind | exact congrArg _ (eqIT x0.kind x1.kind) | (rw [eqIT x0.kind x1.kind]; done) | (rw [eqIT x0.kind x1.kind]; rfl))) ?_
  simp only [List.set_cons_succ, List.set_cons_zero]
  refine lin_val (i := 5) (v := .bool ((x0.kind == x1.kind))) rfl rfl (by rfl) (by intro x hx; go_simp; (first | done | exact rfl)) ?_
  simp only [List.set_cons_succ, List.set_cons_zero]
  refine lin_if (i := 6) (v := .pointer (some ⟨w.heap.size, 1, none⟩)) (x0.kind == x1.kind) rfl rfl (by generalize (x0.kind == x1.kind) = gg0; cases gg0 <;> rfl) (by intro hb; have hb24 := hid (show ((x0.kind == x1.kind)) = true from hb); intro x hx; (try simp only [hb]); (try simp only [cond_true]); go_simp; (first | done | exact rfl)) ?_
  simp only [List.set_cons_succ, List.set_cons_zero]
  refine lin_if (i := 7) (v := .int .i64 (ti (x0.entries))) (x0.kind == x1.kind) rfl rfl (by generalize (x0.kind == x1.kind) = gg0; cases gg0 <;> rfl) (by intro hb; have hb25 := hid (show ((x0.kind == x1.kind)) = true from hb); intro x hx; (try simp only [hb]); (try simp only [cond_true]); have f0 := hx.load 0 1 rfl rfl; go_simp; (first | done | exact rfl)) ?_
  simp only [List.set_cons_succ, List.set_cons_zero]
  refine lin_if (i := 8) (v := .pointer (some ⟨w.heap.size + 1, 1, none⟩)) (x0.kind == x1.kind) rfl rfl (by generalize (x0.kind == x1.kind) = gg0; cases gg0 <;> rfl) (by intro hb; have hb26 := hid (show ((x0.kind == x1.kind)) = true from hb); intro x hx; (try simp only [hb]); (try simp only [cond_true]); go_simp; (first | done | exact rfl)) ?_
  simp only [List.set_cons_succ, List.set_cons_zero]
  refine lin_if (i := 9) (v := .int .i64 (ti (x1.entries))) (x0.kind == x1.kind) rfl rfl (by generalize (x0.kind == x1.kind) = gg0; cases gg0 <;> rfl) (by intro hb; have hb27 := hid (show ((x0.kind == x1.kind)) = true from hb); intro x hx; (try simp only [hb]); (try simp only [cond_true]); have f0 := hx.load 1 1 rfl rfl; go_simp; (first | done | exact rfl)) ?_
  simp only [List.set_cons_succ, List.set_cons_zero]
  refine lin_if (i := 10) (v := .bool ((x0.entries == x1.entries))) (x0.kind == x1.kind) rfl rfl (by generalize (x0.kind == x1.kind) = gg0; cases gg0 <;> rfl) (by intro hb; have hb28 := hid (show ((x0.kind == x1.kind)) = true from hb); intro x hx; (try simp only [hb]); (try simp only [cond_true]); go_simp; (first | done | exact eqIT x0.entries x1.entries | exact congrArg _ (eqIT x0.entries x1.entries) | (rw [eqIT x0.entries x1.entries]; done) | (rw [eqIT x0.entries x1.entries]; rfl))) ?_
  simp only [List.set_cons_succ, List.set_cons_zero]
  refine lin_val (i := 11) (v := .bool ((bif (x0.kind == x1.kind) then (x0.entries == x1.entries) else false))) rfl rfl (by rfl) (by intro x hx; (cases hq : ((x0.kind == x1.kind)) <;> first | rfl | (simp only [hq]; rfl) | simp [hq])) ?_
  simp only [List.set_cons_succ, List.set_cons_zero]
  refine lin_val (i := 12) (v := .bool ((bif (x0.kind == x1.kind) then (x0.entries == x1.entries) else false))) rfl rfl (by rfl) (by intro x hx; go_simp; (first | done | exact rfl)) ?_
  simp only [List.set_cons_succ, List.set_cons_zero]
  refine lin_if (i := 13) (v := .pointer (some ⟨w.heap.size, 2, none⟩)) (bif (x0.kind == x1.kind) then (x0.entries == x1.entries) else false) rfl rfl (by generalize (bif (x0.kind == x1.kind) then (x0.entries == x1.entries) else false) = gg0; cases gg0 <;> rfl) (by intro hb; have hb29 := hid (show ((bif (x0.kind == x1.kind) then (x0.entries == x1.entries) else false)) = true from hb); intro x hx; (try simp only [hb]); (try simp only [cond_true]); go_simp; (first | done | exact rfl)) ?_
  simp only [List.set_cons_succ, List.set_cons_zero]
  refine lin_if (i := 14) (v := .int .i64 (ti (x0.words))) (bif (x0.kind == x1.kind) then (x0.entries == x1.entries) else false) rfl rfl (by generalize (bif (x0.kind == x1.kind) then (x0.entries == x1.entries) else false) = gg0; cases gg0 <;> rfl) (by intro hb; have hb30 := hid (show ((bif (x0.kind == x1.kind) then (x0.entries == x1.entries) else false)) = true from hb); intro x hx; (try simp only [hb]); (try simp only [cond_true]); have f0 := hx.load 0 2 rfl rfl; go_simp; (first | done | exact rfl)) ?_
  simp only [List.set_cons_succ, List.set_cons_zero]
  refine lin_if (i := 15) (v := .pointer (some ⟨w.heap.size + 1, 2, none⟩)) (bif (x0.kind == x1.kind) then (x0.entries == x1.entries) else false) rfl rfl (by generalize (bif (x0.kind == x1.kind) then (x0.entries == x1.entries) else false) = gg0; cases gg0 <;> rfl) (by intro hb; have hb31 := hid (show ((bif (x0.kind == x1.kind) then (x0.entries == x1.entries) else false)) = true from hb); intro x hx; (try simp only [hb]); (try simp only [cond_true]); go_simp; (first | done | exact rfl)) ?_
  simp only [List.set_cons_succ, List.set_cons_zero]
  refine lin_if (i := 16) (v := .int .i64 (ti (x1.words))) (bif (x0.kind == x1.kind) then (x0.entries == x1.entries) else false) rfl rfl (by generalize (bif (x0.kind == x1.kind) then (x0.entries == x1.entries) else false) = gg0; cases gg0 <;> rfl) (by intro hb; have hb32 := hid (show ((bif (x0.kind == x1.kind) then (x0.entries == x1.entries) else false)) = true from hb); intro x hx; (try simp only [hb]); (try simp only [cond_true]); have f0 := hx.load 1 2 rfl rfl; go_simp; (first | done | exact rfl)) ?_
  simp only [List.set_cons_succ, List.set_cons_zero]
  refine lin_if (i := 17) (v := .bool ((x0.words == x1.words))) (bif (x0.kind == x1.kind) then (x0.entries == x1.entries) else false) rfl rfl (by generalize (bif (x0.kind == x1.kind) then (x0.entries == x1.entries) else false) = gg0; cases gg0 <;> rfl) (by intro hb; have hb33 := hid (show ((bif (x0.kind == x1.kind) then (x0.entries == x1.entries) else false)) = true from hb); intro x hx; (try simp only [hb]); (try simp only [cond_true]); go_simp; (first | done | exact eqIT x0.words x1.words | exact congrArg _ (eqIT x0.words x1.words) | (rw [eqIT x0.words x1.words]; done) | (rw [eqIT x0.words x1.words]; rfl))) ?_
  simp only [List.set_cons_succ, List.set_cons_zero]
  refine lin_val (i := 18) (v := .bool ((bif (bif (x0.kind == x1.kind) then (x0.entries == x1.entries) else false) then (x0.words == x1.words) else false))) rfl rfl (by rfl) (by intro x hx; (cases hq : ((bif (x0.kind == x1.kind) then (x0.entries == x1.entries) else false)) <;> first | rfl | (simp only [hq]; rfl) | simp [hq])) ?_
  simp only [List.set_cons_succ, List.set_cons_zero]
  refine lin_val (i := 19) (v := .bool ((bif (bif (x0.kind == x1.kind) then (x0.entries == x1.entries) else false) then (x0.words == x1.words) else false))) rfl rfl (by rfl) (by intro x hx; go_simp; (first | done | exact rfl)) ?_
  simp only [List.set_cons_succ, List.set_cons_zero]
  refine lin_if (i := 20) (v := .pointer (some ⟨w.heap.size, 3, none⟩)) (bif (bif (x0.kind == x1.kind) then (x0.entries == x1.entries) else false) then (x0.words == x1.words) else false) rfl rfl (by generalize (bif (bif (x0.kind == x1.kind) then (x0.entries == x1.entries) else false) then (x0.words == x1.words) else false) = gg0; cases gg0 <;> rfl) (by intro hb; have hb34 := hid (show ((bif (bif (x0.kind == x1.kind) then (x0.entries == x1.entries) else false) then (x0.words == x1.words) else false)) = true from hb); intro x hx; (try simp only [hb]); (try simp only [cond_true]); go_simp; (first | done | exact rfl)) ?_
  simp only [List.set_cons_succ, List.set_cons_zero]
  refine lin_if (i := 21) (v := .int .i64 (ti (x0.buckets))) (bif (bif (x0.kind == x1.kind) then (x0.entries == x1.entries) else false) then (x0.words == x1.words) else false) rfl rfl (by generalize (bif (bif (x0.kind == x1.kind) then (x0.entries == x1.entries) else false) then (x0.words == x1.words) else false) = gg0; cases gg0 <;> rfl) (by intro hb; have hb35 := hid (show ((bif (bif (x0.kind == x1.kind) then (x0.entries == x1.entries) else false) then (x0.words == x1.words) else false)) = true from hb); intro x hx; (try simp only [hb]); (try simp only [cond_true]); have f0 := hx.load 0 3 rfl rfl; go_simp; (first | done | exact rfl)) ?_
  simp only [List.set_cons_succ, List.set_cons_zero]
  refine lin_if (i := 22) (v := .pointer (some ⟨w.heap.size + 1, 3, none⟩)) (bif (bif (x0.kind == x1.kind) then (x0.entries == x1.entries) else false) then (x0.words == x1.words) else false) rfl rfl (by generalize (bif (bif (x0.kind == x1.kind) then (x0.entries == x1.entries) else false) then (x0.words == x1.words) else false) = gg0; cases gg0 <;> rfl) (by intro hb; have hb36 := hid (show ((bif (bif (x0.kind == x1.kind) then (x0.entries == x1.entries) else false) then (x0.words == x1.words) else false)) = true from hb); intro x hx; (try simp only [hb]); (try simp only [cond_true]); go_simp; (first | done | exact rfl)) ?_
  simp only [List.set_cons_succ, List.set_cons_zero]
  refine lin_if (i := 23) (v := .int .i64 (ti (x1.buckets))) (bif (bif (x0.kind == x1.kind) then (x0.entries == x1.entries) else false) then (x0.words == x1.words) else false) rfl rfl (by generalize (bif (bif (x0.kind == x1.kind) then (x0.entries == x1.entries) else false) then (x0.words == x1.words) else false) = gg0; cases gg0 <;> rfl) (by intro hb; have hb37 := hid (show ((bif (bif (x0.kind == x1.kind) then (x0.entries == x1.entries) else false) then (x0.words == x1.words) else false)) = true from hb); intro x hx; (try simp only [hb]); (try simp only [cond_true]); have f0 := hx.load 1 3 rfl rfl; go_simp; (first | done | exact rfl)) ?_
  simp only [List.set_cons_succ, List.set_cons_zero]
  refine lin_if (i := 24) (v := .bool ((x0.buckets == x1.buckets))) (bif (bif (x0.kind == x1.kind) then (x0.entries == x1.entries) else false) then (x0.words == x1.words) else false) rfl rfl (by generalize (bif (bif (x0.kind == x1.kind) then (x0.entries == x1.entries) else false) then (x0.words == x1.words) else false) = gg0; cases gg0 <;> rfl) (by intro hb; have hb38 := hid (show ((bif (bif (x0.kind == x1.kind) then (x0.entries == x1.entries) else false) then (x0.words == x1.words) else false)) = true from hb); intro x hx; (try simp only [hb]); (try simp only [cond_true]); go_simp; (first | done | exact eqIT x0.buckets x1.buckets | exact congrArg _ (eqIT x0.buckets x1.buckets) | (rw [eqIT x0.buckets x1.buckets]; done) | (rw [eqIT x0.buckets x1.buckets]; rfl))) ?_
  simp only [List.set_cons_succ, List.set_cons_zero]
  refine lin_val (i := 25) (v := .bool ((bif (bif (bif (x0.kind == x1.kind) then (x0.entries == x1.entries) else false) then (x0.words == x1.words) else false) then (x0.buckets == x1.buckets) else false))) rfl rfl (by rfl) (by intro x hx; (cases hq : ((bif (bif (x0.kind == x1.kind) then (x0.entries == x1.entries) else false) then (x0.words == x1.words) else false)) <;> first | rfl | (simp only [hq]; rfl) | simp [hq])) ?_
  simp only [List.set_cons_succ, List.set_cons_zero]
  refine lin_val (i := 26) (v := .bool ((bif (bif (bif (x0.kind == x1.kind) then (x0.entries == x1.entries) else false) then (x0.words == x1.words) else false) then (x0.buckets == x1.buckets) else false))) rfl rfl (by rfl) (by intro x hx; go_simp; (first | done | exact rfl)) ?_
  simp only [List.set_cons_succ, List.set_cons_zero]
  refine lin_if (i := 27) (v := .pointer (some ⟨w.heap.size, 4, none⟩)) (bif (bif (bif (x0.kind == x1.kind) then (x0.entries == x1.entries) else false) then (x0.words == x1.words) else false) then (x0.buckets == x1.buckets) else false) rfl rfl (by generalize (bif (bif (bif (x0.kind == x1.kind) then (x0.entries == x1.entries) else false) then (x0.words == x1.words) else false) then (x0.buckets == x1.buckets) else false) = gg0; cases gg0 <;> rfl) (by intro hb; have hb39 := hid (show ((bif (bif (bif (x0.kind == x1.kind) then (x0.entries == x1.entries) else false) then (x0.words == x1.words) else false) then (x0.buckets == x1.buckets) else false)) = true from hb); intro x hx; (try simp only [hb]); (try simp only [cond_true]); go_simp; (first | done | exact rfl)) ?_
  simp only [List.set_cons_succ, List.set_cons_zero]
  refine lin_if (i := 28) (v := .int .i64 (ti (x0.inner))) (bif (bif (bif (x0.kind == x1.kind) then (x0.entries == x1.entries) else false) then (x0.words == x1.words) else false) then (x0.buckets == x1.buckets) else false) rfl rfl (by generalize (bif (bif (bif (x0.kind == x1.kind) then (x0.entries == x1.entries) else false) then (x0.words == x1.words) else false) then (x0.buckets == x1.buckets) else false) = gg0; cases gg0 <;> rfl) (by intro hb; have hb40 := hid (show ((bif (bif (bif (x0.kind == x1.kind) then (x0.entries == x1.entries) else false) then (x0.words == x1.words) else false) then (x0.buckets == x1.buckets) else false)) = true from hb); intro x hx; (try simp only [hb]); (try simp only [cond_true]); have f0 := hx.load 0 4 rfl rfl; go_simp; (first | done | exact rfl)) ?_
  simp only [List.set_cons_succ, List.set_cons_zero]
  refine lin_if (i := 29) (v := .pointer (some ⟨w.heap.size + 1, 4, none⟩)) (bif (bif (bif (x0.kind == x1.kind) then (x0.entries == x1.entries) else false) then (x0.words == x1.words) else false) then (x0.buckets == x1.buckets) else false) rfl rfl (by generalize (bif (bif (bif (x0.kind == x1.kind) then (x0.entries == x1.entries) else false) then (x0.words == x1.words) else false) then (x0.buckets == x1.buckets) else false) = gg0; cases gg0 <;> rfl) (by intro hb; have hb41 := hid (show ((bif (bif (bif (x0.kind == x1.kind) then (x0.entries == x1.entries) else false) then (x0.words == x1.words) else false) then (x0.buckets == x1.buckets) else false)) = true from hb); intro x hx; (try simp only [hb]); (try simp only [cond_true]); go_simp; (first | done | exact rfl)) ?_
  simp only [List.set_cons_succ, List.set_cons_zero]
  refine lin_if (i := 30) (v := .int .i64 (ti (x1.inner))) (bif (bif (bif (x0.kind == x1.kind) then (x0.entries == x1.entries) else false) then (x0.words == x1.words) else false) then (x0.buckets == x1.buckets) else false) rfl rfl (by generalize (bif (bif (bif (x0.kind == x1.kind) then (x0.entries == x1.entries) else false) then (x0.words == x1.words) else false) then (x0.buckets == x1.buckets) else false) = gg0; cases gg0 <;> rfl) (by intro hb; have hb42 := hid (show ((bif (bif (bif (x0.kind == x1.kind) then (x0.entries == x1.entries) else false) then (x0.words == x1.words) else false) then (x0.buckets == x1.buckets) else false)) = true from hb); intro x hx; (try simp only [hb]); (try simp only [cond_true]); have f0 := hx.load 1 4 rfl rfl; go_simp; (first | done | exact rfl)) ?_
  simp only [List.set_cons_succ, List.set_cons_zero]
  refine lin_if (i := 31) (v := .bool ((x0.inner == x1.inner))) (bif (bif (bif (x0.kind == x1.kind) then (x0.entries == x1.entries) else false) then (x0.words == x1.words) else false) then (x0.buckets == x1.buckets) else false) rfl rfl (by generalize (bif (bif (bif (x0.kind == x1.kind) then (x0.entries == x1.entries) else false) then (x0.words == x1.words) else false) then (x0.buckets == x1.buckets) else false) = gg0; cases gg0 <;> rfl) (by intro hb; have hb43 := hid (show ((bif (bif (bif (x0.kind == x1.kind) then (x0.entries == x1.entries) else false) then (x0.words == x1.words) else false) then (x0.buckets == x1.buckets) else false)) = true from hb); intro x hx; (try simp only [hb]); (try simp only [cond_true]); go_simp; (first | done | exact eqIT x0.inner x1.inner | exact congrArg _ (eqIT x0.inner x1.inner) | (rw [eqIT x0.inner x1.inner]; done) | (rw [eqIT x0.inner x1.inner]; rfl))) ?_
  simp only [List.set_cons_succ, List.set_cons_zero]
  refine lin_val (i := 32) (v := .bool ((bif (bif (bif (bif (x0.kind == x1.kind) then (x0.entries == x1.entries) else false) then (x0.words == x1.words) else false) then (x0.buckets == x1.buckets) else false) then (x0.inner == x1.inner) else false))) rfl rfl (by rfl) (by intro x hx; (cases hq : ((bif (bif (bif (x0.kind == x1.kind) then (x0.entries == x1.entries) else false) then (x0.words == x1.words) else false) then (x0.buckets == x1.buckets) else false)) <;> first | rfl | (simp only [hq]; rfl) | simp [hq])) ?_
  simp only [List.set_cons_succ, List.set_cons_zero]
  refine lin_val (i := 33) (v := .bool ((bif (bif (bif (bif (x0.kind == x1.kind) then (x0.entries == x1.entries) else false) then (x0.words == x1.words) else false) then (x0.buckets == x1.buckets) else false) then (x0.inner == x1.inner) else false))) rfl rfl (by rfl) (by intro x hx; go_simp; (first | done | exact rfl)) ?_
  simp only [List.set_cons_succ, List.set_cons_zero]
  refine lin_done ?_
  intro W1 hx
  replace HS := hid hx
  clear hx
  go_wp2
  have HF : ref_Like x0 x1 = (bif (bif (bif (bif (x0.kind == x1.kind) then (x0.entries == x1.entries) else false) then (x0.words == x1.words) else false) then (x0.buckets == x1.buckets) else false) then (x0.inner == x1.inner) else false) := by
    unfold ref_Like
    rfl
  exact bodyPost_ret (v := .bool ((bif (bif (bif (bif (x0.kind == x1.kind) then (x0.entries == x1.entries) else false) then (x0.words == x1.words) else false) then (x0.buckets == x1.buckets) else false) then (x0.inner == x1.inner) else false))) (by simp [results, Tryd.results16, go_sem]) rfl ⟨(by first | (rw [HF]; done) | (rw [HF]; rfl)), HS.out.below⟩
def ref_May (x0 : BitVec 64) (x1 : BitVec 64)  : Bool :=
  bif (x1 == 1#64) then ((bif (bif (bif (bif (x0 == 1#64) then true else (x0 == 2#64)) then true else (x0 == 3#64)) then true else (bif (x0 == 4#64) then true else (x0 == 5#64))) then true else (bif (x0 == 9#64) then true else (x0 == 10#64)))) else (bif (x1 == 2#64) then ((bif (bif (bif (bif (x0 == 1#64) then true else (x0 == 2#64)) then true else (x0 == 3#64)) then true else (bif (x0 == 4#64) then true else (x0 == 5#64))) then true else (bif (x0 == 9#64) then true else (x0 == 10#64)))) else (bif (x1 == 4#64) then ((bif (bif (bif (bif (x0 == 1#64) then true else (x0 == 2#64)) then true else (x0 == 3#64)) then true else (bif (x0 == 4#64) then true else (x0 == 5#64))) then true else (bif (x0 == 9#64) then true else (x0 == 10#64)))) else (bif (x1 == 3#64) then ((bif (bif (x0 == 4#64) then true else (x0 == 5#64)) then true else (bif (x0 == 9#64) then true else (x0 == 10#64)))) else (bif (x1 == 5#64) then ((bif (x0 == 4#64) then true else (x0 == 5#64))) else (bif (x1 == 6#64) then ((bif (bif (x0 == 6#64) then true else (x0 == 7#64)) then true else (x0 == 8#64))) else (bif (x1 == 8#64) then ((bif (bif (x0 == 6#64) then true else (x0 == 7#64)) then true else (x0 == 8#64))) else (bif (x1 == 7#64) then ((bif (x0 == 6#64) then true else (x0 == 7#64))) else (false))))))))
set_option maxRecDepth 100000 in
set_option maxHeartbeats 1000000 in
theorem ref_May_any (x0 : BitVec 64) (x1 : BitVec 64)    (w : World) :
    Calls Tryd.prog 18 #[.int .i64 (ti (x0)), .int .i64 (ti (x1))] w fun e w' => e = .returned (.bool (ref_May x0 x1)) ∧ Below w.heap.size w w' := by
  go_enter Tryd.func18, Tryd.ntmps18
  have HS := hid (st_nil w)
  -- region 1
  go_upto_region 1 with fail
  refine lin_begin (St w []) rfl HS.out ?_
  refine lin_val (i := 0) (v := .int .i64 (ti (x0))) rfl rfl (by rfl) (by intro x hx; go_simp; (first | done | exact rfl)) ?_
  simp only [List.set_cons_succ, List.set_cons_zero]
  refine lin_val (i := 1) (v := .bool ((x0 == 1#64))) rfl rfl (by rfl) (by intro x hx; go_simp; (first | done | exact eqIT x0 1#64 | exact congrArg _ (eqIT x0 1#64) | (rw [eqIT x0 1#64]; done) | (rw [eqIT x0 1#64]; rfl))) ?_
  simp only [List.set_cons_succ, List.set_cons_zero]
  refine lin_val (i := 2) (v := .bool ((x0 == 1#64))) rfl rfl (by rfl) (by intro x hx; go_simp; (first | done | exact rfl)) ?_
  simp only [List.set_cons_succ, List.set_cons_zero]
  refine lin_if (i := 3) (v := .int .i64 (ti (x0))) (!(x0 == 1#64)) rfl rfl (by generalize (x0 == 1#64) = gg0; cases gg0 <;> rfl) (by intro hb; have hb44 := hid (show ((x0 == 1#64)) = false from nnb hb); intro x hx; (try simp only [hb]); (try simp only [cond_true]); go_simp; (first | done | exact rfl)) ?_
  simp only [List.set_cons_succ, List.set_cons_zero]
  refine lin_if (i := 4) (v := .bool ((x0 == 2#64))) (!(x0 == 1#64)) rfl rfl (by generalize (x0 == 1#64) = gg0; cases gg0 <;> rfl) (by intro hb; have hb45 := hid (show ((x0 == 1#64)) = false from nnb hb); intro x hx; (try simp only [hb]); (try simp only [cond_true]); go_simp; (first | done | exact eqIT x0 2#64 | exact congrArg _ (eqIT x0 2#64) | (rw [eqIT x0 2#64]; done) | (rw [eqIT x0 2#64]; rfl))) ?_
  simp only [List.set_cons_succ, List.set_cons_zero]
  refine lin_val (i := 5) (v := .bool ((bif (x0 == 1#64) then true else (x0 == 2#64)))) rfl rfl (by rfl) (by intro x hx; (cases hq : ((x0 == 1#64)) <;> first | rfl | (simp only [hq]; rfl) | simp [hq])) ?_
  simp only [List.set_cons_succ, List.set_cons_zero]
  refine lin_val (i := 6) (v := .bool ((bif (x0 == 1#64) then true else (x0 == 2#64)))) rfl rfl (by rfl) (by intro x hx; go_simp; (first | done | exact rfl)) ?_
  simp only [List.set_cons_succ, List.set_cons_zero]
  refine lin_if (i := 7) (v := .int .i64 (ti (x0))) (!(bif (x0 == 1#64) then true else (x0 == 2#64))) rfl rfl (by generalize (bif (x0 == 1#64) then true else (x0 == 2#64)) = gg0; cases gg0 <;> rfl) (by intro hb; have hb46 := hid (show ((bif (x0 == 1#64) then true else (x0 == 2#64))) = false from nnb hb); intro x hx; (try simp only [hb]); (try simp only [cond_true]); go_simp; (first | done | exact rfl)) ?_
  simp only [List.set_cons_succ, List.set_cons_zero]
  refine lin_if (i := 8) (v := .bool ((x0 == 3#64))) (!(bif (x0 == 1#64) then true else (x0 == 2#64))) rfl rfl (by generalize (bif (x0 == 1#64) then true else (x0 == 2#64)) = gg0; cases gg0 <;> rfl) (by intro hb; have hb47 := hid (show ((bif (x0 == 1#64) then true else (x0 == 2#64))) = false from nnb hb); intro x hx; (try simp only [hb]); (try simp only [cond_true]); go_simp; (first | done | exact eqIT x0 3#64 | exact congrArg _ (eqIT x0 3#64) | (rw [eqIT x0 3#64]; done) | (rw [eqIT x0 3#64]; rfl))) ?_
  simp only [List.set_cons_succ, List.set_cons_zero]
  refine lin_val (i := 9) (v := .bool ((bif (bif (x0 == 1#64) then true else (x0 == 2#64)) then true else (x0 == 3#64)))) rfl rfl (by rfl) (by intro x hx; (cases hq : ((bif (x0 == 1#64) then true else (x0 == 2#64))) <;> first | rfl | (simp only [hq]; rfl) | simp [hq])) ?_
  simp only [List.set_cons_succ, List.set_cons_zero]
  refine lin_val (i := 10) (v := .bool ((bif (bif (x0 == 1#64) then true else (x0 == 2#64)) then true else (x0 == 3#64)))) rfl rfl (by rfl) (by intro x hx; go_simp; (first | done | exact rfl)) ?_
  simp only [List.set_cons_succ, List.set_cons_zero]
  refine lin_done ?_
  intro W1 hx
  replace HS := hid hx
  clear hx
  -- region 2
  go_upto_region 2 with fail
  refine lin_begin (St w []) rfl HS.out ?_
  refine lin_val (i := 0) (v := .int .i64 (ti (x0))) rfl rfl (by rfl) (by intro x hx; go_simp; (first | done | exact rfl)) ?_
  simp only [List.set_cons_succ, List.set_cons_zero]
  refine lin_val (i := 1) (v := .bool ((x0 == 4#64))) rfl rfl (by rfl) (by intro x hx; go_simp; (first | done | exact eqIT x0 4#64 | exact congrArg _ (eqIT x0 4#64) | (rw [eqIT x0 4#64]; done) | (rw [eqIT x0 4#64]; rfl))) ?_
  simp only [List.set_cons_succ, List.set_cons_zero]
  refine lin_val (i := 2) (v := .bool ((x0 == 4#64))) rfl rfl (by rfl) (by intro x hx; go_simp; (first | done | exact rfl)) ?_
  simp only [List.set_cons_succ, List.set_cons_zero]
  refine lin_if (i := 3) (v := .int .i64 (ti (x0))) (!(x0 == 4#64)) rfl rfl (by generalize (x0 == 4#64) = gg0; cases gg0 <;> rfl) (by intro hb; have hb48 := hid (show ((x0 == 4#64)) = false from nnb hb); intro x hx; (try simp only [hb]); (try simp only [cond_true]); go_simp; (first | done | exact rfl)) ?_
  simp only [List.set_cons_succ, List.set_cons_zero]
  refine lin_if (i := 4) (v := .bool ((x0 == 5#64))) (!(x0 == 4#64)) rfl rfl (by generalize (x0 == 4#64) = gg0; cases gg0 <;> rfl) (by intro hb; have hb49 := hid (show ((x0 == 4#64)) = false from nnb hb); intro x hx; (try simp only [hb]); (try simp only [cond_true]); go_simp; (first | done | exact eqIT x0 5#64 | exact congrArg _ (eqIT x0 5#64) | (rw [eqIT x0 5#64]; done) | (rw [eqIT x0 5#64]; rfl))) ?_
  simp only [List.set_cons_succ, List.set_cons_zero]
  refine lin_val (i := 5) (v := .bool ((bif (x0 == 4#64) then true else (x0 == 5#64)))) rfl rfl (by rfl) (by intro x hx; (cases hq : ((x0 == 4#64)) <;> first | rfl | (simp only [hq]; rfl) | simp [hq])) ?_
  simp only [List.set_cons_succ, List.set_cons_zero]
  refine lin_val (i := 6) (v := .bool ((bif (x0 == 4#64) then true else (x0 == 5#64)))) rfl rfl (by rfl) (by intro x hx; go_simp; (first | done | exact rfl)) ?_
  simp only [List.set_cons_succ, List.set_cons_zero]
  refine lin_done ?_
  intro W2 hx
  replace HS := hid hx
  clear hx
  -- region 3
  go_upto_region 3 with fail
  refine lin_begin (St w []) rfl HS.out ?_
  refine lin_val (i := 0) (v := .int .i64 (ti (x0))) rfl rfl (by rfl) (by intro x hx; go_simp; (first | done | exact rfl)) ?_
  simp only [List.set_cons_succ, List.set_cons_zero]
  refine lin_val (i := 1) (v := .bool ((x0 == 6#64))) rfl rfl (by rfl) (by intro x hx; go_simp; (first | done | exact eqIT x0 6#64 | exact congrArg _ (eqIT x0 6#64) | (rw [eqIT x0 6#64]; done) | (rw [eqIT x0 6#64]; rfl))) ?_
  simp only [List.set_cons_succ, List.set_cons_zero]
  refine lin_val (i := 2) (v := .bool ((x0 == 6#64))) rfl rfl (by rfl) (by intro x hx; go_simp; (first | done | exact rfl)) ?_
  simp only [List.set_cons_succ, List.set_cons_zero]
  refine lin_if (i := 3) (v := .int .i64 (ti (x0))) (!(x0 == 6#64)) rfl rfl (by generalize (x0 == 6#64) = gg0; cases gg0 <;> rfl) (by intro hb; have hb50 := hid (show ((x0 == 6#64)) = false from nnb hb); intro x hx; (try simp only [hb]); (try simp only [cond_true]); go_simp; (first | done | exact rfl)) ?_
  simp only [List.set_cons_succ, List.set_cons_zero]
  refine lin_if (i := 4) (v := .bool ((x0 == 7#64))) (!(x0 == 6#64)) rfl rfl (by generalize (x0 == 6#64) = gg0; cases gg0 <;> rfl) (by intro hb; have hb51 := hid (show ((x0 == 6#64)) = false from nnb hb); intro x hx; (try simp only [hb]); (try simp only [cond_true]); go_simp; (first | done | exact eqIT x0 7#64 | exact congrArg _ (eqIT x0 7#64) | (rw [eqIT x0 7#64]; done) | (rw [eqIT x0 7#64]; rfl))) ?_
  simp only [List.set_cons_succ, List.set_cons_zero]
  refine lin_val (i := 5) (v := .bool ((bif (x0 == 6#64) then true else (x0 == 7#64)))) rfl rfl (by rfl) (by intro x hx; (cases hq : ((x0 == 6#64)) <;> first | rfl | (simp only [hq]; rfl) | simp [hq])) ?_
  simp only [List.set_cons_succ, List.set_cons_zero]
  refine lin_val (i := 6) (v := .bool ((bif (x0 == 6#64) then true else (x0 == 7#64)))) rfl rfl (by rfl) (by intro x hx; go_simp; (first | done | exact rfl)) ?_
  simp only [List.set_cons_succ, List.set_cons_zero]
  refine lin_done ?_
  intro W3 hx
  replace HS := hid hx
  clear hx
  -- region 4
  go_upto_region 4 with fail
  refine lin_begin (St w []) rfl HS.out ?_
  refine lin_val (i := 0) (v := .int .i64 (ti (x1))) rfl rfl (by rfl) (by intro x hx; go_simp; (first | done | exact rfl)) ?_
  simp only [List.set_cons_succ, List.set_cons_zero]
  refine lin_done ?_
  intro W4 hx
  replace HS := hid hx
  clear hx
  -- region 5
  go_upto_region 5 with fail
  refine lin_begin (St w []) rfl HS.out ?_
  refine lin_val (i := 0) (v := .bool ((x1 == 1#64))) rfl rfl (by rfl) (by intro x hx; go_simp; (first | done | exact eqIT x1 1#64 | exact congrArg _ (eqIT x1 1#64) | (rw [eqIT x1 1#64]; done) | (rw [eqIT x1 1#64]; rfl))) ?_
  simp only [List.set_cons_succ, List.set_cons_zero]
  refine lin_val (i := 1) (v := .bool ((x1 == 1#64))) rfl rfl (by rfl) (by intro x hx; go_simp; (first | done | exact rfl)) ?_
  simp only [List.set_cons_succ, List.set_cons_zero]
  refine lin_done ?_
  intro W5 hx
  replace HS := hid hx
  clear hx
  cases h1 : ((x1 == 1#64))
  · replace h1 := hid h1
    -- region 6
    go_upto_region 6 with fail
    refine lin_begin (St w []) rfl HS.out ?_
    refine lin_val (i := 0) (v := .bool ((x1 == 2#64))) rfl rfl (by rfl) (by intro x hx; go_simp; (first | done | exact eqIT x1 2#64 | exact congrArg _ (eqIT x1 2#64) | (rw [eqIT x1 2#64]; done) | (rw [eqIT x1 2#64]; rfl))) ?_
    simp only [List.set_cons_succ, List.set_cons_zero]
    refine lin_val (i := 1) (v := .bool ((x1 == 2#64))) rfl rfl (by rfl) (by intro x hx; go_simp; (first | done | exact rfl)) ?_
    simp only [List.set_cons_succ, List.set_cons_zero]
    refine lin_done ?_
    intro W6 hx
    replace HS := hid hx
    clear hx
    cases h2 : ((x1 == 2#64))
    · replace h2 := hid h2
      -- region 7
      go_upto_region 7 with fail
      refine lin_begin (St w []) rfl HS.out ?_
      refine lin_val (i := 0) (v := .bool ((x1 == 4#64))) rfl rfl (by rfl) (by intro x hx; go_simp; (first | done | exact eqIT x1 4#64 | exact congrArg _ (eqIT x1 4#64) | (rw [eqIT x1 4#64]; done) | (rw [eqIT x1 4#64]; rfl))) ?_
      simp only [List.set_cons_succ, List.set_cons_zero]
      refine lin_val (i := 1) (v := .bool ((x1 == 4#64))) rfl rfl (by rfl) (by intro x hx; go_simp; (first | done | exact rfl)) ?_
      simp only [List.set_cons_succ, List.set_cons_zero]
      refine lin_done ?_
      intro W7 hx
      replace HS := hid hx
      clear hx
      cases h3 : ((x1 == 4#64))
      · replace h3 := hid h3
        -- region 9
        go_upto_region 9 with fail
        refine lin_begin (St w []) rfl HS.out ?_
        refine lin_val (i := 0) (v := .bool ((x1 == 3#64))) rfl rfl (by rfl) (by intro x hx; go_simp; (first | done | exact eqIT x1 3#64 | exact congrArg _ (eqIT x1 3#64) | (rw [eqIT x1 3#64]; done) | (rw [eqIT x1 3#64]; rfl))) ?_
        simp only [List.set_cons_succ, List.set_cons_zero]
        refine lin_val (i := 1) (v := .bool ((x1 == 3#64))) rfl rfl (by rfl) (by intro x hx; go_simp; (first | done | exact rfl)) ?_
        simp only [List.set_cons_succ, List.set_cons_zero]
        refine lin_done ?_
        intro W8 hx
        replace HS := hid hx
        clear hx
        cases h4 : ((x1 == 3#64))
        · replace h4 := hid h4
          -- region 11
          go_upto_region 11 with fail
          refine lin_begin (St w []) rfl HS.out ?_
          refine lin_val (i := 0) (v := .bool ((x1 == 5#64))) rfl rfl (by rfl) (by intro x hx; go_simp; (first | done | exact eqIT x1 5#64 | exact congrArg _ (eqIT x1 5#64) | (rw [eqIT x1 5#64]; done) | (rw [eqIT x1 5#64]; rfl))) ?_
          simp only [List.set_cons_succ, List.set_cons_zero]
          refine lin_val (i := 1) (v := .bool ((x1 == 5#64))) rfl rfl (by rfl) (by intro x hx; go_simp; (first | done | exact rfl)) ?_
          simp only [List.set_cons_succ, List.set_cons_zero]
          refine lin_done ?_
          intro W9 hx
          replace HS := hid hx
          clear hx
          cases h5 : ((x1 == 5#64))
          · replace h5 := hid h5
            -- region 13
            go_upto_region 13 with fail
            refine lin_begin (St w []) rfl HS.out ?_
            refine lin_val (i := 0) (v := .bool ((x1 == 6#64))) rfl rfl (by rfl) (by intro x hx; go_simp; (first | done | exact eqIT x1 6#64 | exact congrArg _ (eqIT x1 6#64) | (rw [eqIT x1 6#64]; done) | (rw [eqIT x1 6#64]; rfl))) ?_
            simp only [List.set_cons_succ, List.set_cons_zero]
            refine lin_val (i := 1) (v := .bool ((x1 == 6#64))) rfl rfl (by rfl) (by intro x hx; go_simp; (first | done | exact rfl)) ?_
            simp only [List.set_cons_succ, List.set_cons_zero]
            refine lin_done ?_
            intro W10 hx
            replace HS := hid hx
            clear hx
            cases h6 : ((x1 == 6#64))
            · replace h6 := hid h6
              -- region 14
              go_upto_region 14 with fail
              refine lin_begin (St w []) rfl HS.out ?_
              refine lin_val (i := 0) (v := .bool ((x1 == 8#64))) rfl rfl (by rfl) (by intro x hx; go_simp; (first | done | exact eqIT x1 8#64 | exact congrArg _ (eqIT x1 8#64) | (rw [eqIT x1 8#64]; done) | (rw [eqIT x1 8#64]; rfl))) ?_
              simp only [List.set_cons_succ, List.set_cons_zero]
              refine lin_val (i := 1) (v := .bool ((x1 == 8#64))) rfl rfl (by rfl) (by intro x hx; go_simp; (first | done | exact rfl)) ?_
              simp only [List.set_cons_succ, List.set_cons_zero]
              refine lin_done ?_
              intro W11 hx
              replace HS := hid hx
              clear hx
              cases h7 : ((x1 == 8#64))
              · replace h7 := hid h7
                -- region 16
                go_upto_region 16 with fail
                refine lin_begin (St w []) rfl HS.out ?_
                refine lin_val (i := 0) (v := .bool ((x1 == 7#64))) rfl rfl (by rfl) (by intro x hx; go_simp; (first | done | exact eqIT x1 7#64 | exact congrArg _ (eqIT x1 7#64) | (rw [eqIT x1 7#64]; done) | (rw [eqIT x1 7#64]; rfl))) ?_
                simp only [List.set_cons_succ, List.set_cons_zero]
                refine lin_val (i := 1) (v := .bool ((x1 == 7#64))) rfl rfl (by rfl) (by intro x hx; go_simp; (first | done | exact rfl)) ?_
                simp only [List.set_cons_succ, List.set_cons_zero]
                refine lin_done ?_
                intro W12 hx
                replace HS := hid hx
                clear hx
                cases h8 : ((x1 == 7#64))
                · replace h8 := hid h8
                  -- region 18
                  go_upto_region 18 with fail
                  refine lin_begin (St w []) rfl HS.out ?_
                  refine lin_val (i := 0) (v := .bool false) rfl rfl (by rfl) (by intro x hx; go_simp; (first | done | exact rfl)) ?_
                  simp only [List.set_cons_succ, List.set_cons_zero]
                  refine lin_done ?_
                  intro W13 hx
                  replace HS := hid hx
                  clear hx
                  go_wp2
                  have HF : ref_May x0 x1 = false := by
                    unfold ref_May
                    rw [cond_f h1.out, cond_f h2.out, cond_f h3.out, cond_f h4.out, cond_f h5.out, cond_f h6.out, cond_f h7.out, cond_f h8.out]
                  exact bodyPost_ret (v := .bool false) (by simp [results, Tryd.results18, go_sem]) rfl ⟨(by first | (rw [HF]; done) | (rw [HF]; rfl)), HS.out.below⟩
                · replace h8 := hid h8
                  -- region 17
                  go_upto_region 17 with fail
                  refine lin_begin (St w []) rfl HS.out ?_
                  refine lin_val (i := 0) (v := .bool ((bif (x0 == 6#64) then true else (x0 == 7#64)))) rfl rfl (by rfl) (by intro x hx; go_simp; (first | done | exact rfl)) ?_
                  simp only [List.set_cons_succ, List.set_cons_zero]
                  refine lin_val (i := 1) (v := .bool ((bif (x0 == 6#64) then true else (x0 == 7#64)))) rfl rfl (by rfl) (by intro x hx; go_simp; (first | done | exact rfl)) ?_
                  simp only [List.set_cons_succ, List.set_cons_zero]
                  refine lin_done ?_
                  intro W13 hx
                  replace HS := hid hx
                  clear hx
                  go_wp2
                  have HF : ref_May x0 x1 = (bif (x0 == 6#64) then true else (x0 == 7#64)) := by
                    unfold ref_May
                    rw [cond_f h1.out, cond_f h2.out, cond_f h3.out, cond_f h4.out, cond_f h5.out, cond_f h6.out, cond_f h7.out, cond_t h8.out]
                  exact bodyPost_ret (v := .bool ((bif (x0 == 6#64) then true else (x0 == 7#64)))) (by simp [results, Tryd.results18, go_sem]) rfl ⟨(by first | (rw [HF]; done) | (rw [HF]; rfl)), HS.out.below⟩
              · replace h7 := hid h7
                -- region 15
                go_upto_region 15 with fail
                refine lin_begin (St w []) rfl HS.out ?_
                refine lin_val (i := 0) (v := .bool ((bif (x0 == 6#64) then true else (x0 == 7#64)))) rfl rfl (by rfl) (by intro x hx; go_simp; (first | done | exact rfl)) ?_
                simp only [List.set_cons_succ, List.set_cons_zero]
                refine lin_val (i := 1) (v := .bool ((bif (x0 == 6#64) then true else (x0 == 7#64)))) rfl rfl (by rfl) (by intro x hx; go_simp; (first | done | exact rfl)) ?_
                simp only [List.set_cons_succ, List.set_cons_zero]
                refine lin_if (i := 2) (v := .int .i64 (ti (x0))) (!(bif (x0 == 6#64) then true else (x0 == 7#64))) rfl rfl (by generalize (bif (x0 == 6#64) then true else (x0 == 7#64)) = gg0; cases gg0 <;> rfl) (by intro hb; have hb52 := hid (show ((bif (x0 == 6#64) then true else (x0 == 7#64))) = false from nnb hb); intro x hx; (try simp only [hb]); (try simp only [cond_true]); go_simp; (first | done | exact rfl)) ?_
                simp only [List.set_cons_succ, List.set_cons_zero]
                refine lin_if (i := 3) (v := .bool ((x0 == 8#64))) (!(bif (x0 == 6#64) then true else (x0 == 7#64))) rfl rfl (by generalize (bif (x0 == 6#64) then true else (x0 == 7#64)) = gg0; cases gg0 <;> rfl) (by intro hb; have hb53 := hid (show ((bif (x0 == 6#64) then true else (x0 == 7#64))) = false from nnb hb); intro x hx; (try simp only [hb]); (try simp only [cond_true]); go_simp; (first | done | exact eqIT x0 8#64 | exact congrArg _ (eqIT x0 8#64) | (rw [eqIT x0 8#64]; done) | (rw [eqIT x0 8#64]; rfl))) ?_
                simp only [List.set_cons_succ, List.set_cons_zero]
                refine lin_val (i := 4) (v := .bool ((bif (bif (x0 == 6#64) then true else (x0 == 7#64)) then true else (x0 == 8#64)))) rfl rfl (by rfl) (by intro x hx; (cases hq : ((bif (x0 == 6#64) then true else (x0 == 7#64))) <;> first | rfl | (simp only [hq]; rfl) | simp [hq])) ?_
                simp only [List.set_cons_succ, List.set_cons_zero]
                refine lin_val (i := 5) (v := .bool ((bif (bif (x0 == 6#64) then true else (x0 == 7#64)) then true else (x0 == 8#64)))) rfl rfl (by rfl) (by intro x hx; go_simp; (first | done | exact rfl)) ?_
                simp only [List.set_cons_succ, List.set_cons_zero]
                refine lin_done ?_
                intro W12 hx
                replace HS := hid hx
                clear hx
                go_wp2
                have HF : ref_May x0 x1 = (bif (bif (x0 == 6#64) then true else (x0 == 7#64)) then true else (x0 == 8#64)) := by
                  unfold ref_May
                  rw [cond_f h1.out, cond_f h2.out, cond_f h3.out, cond_f h4.out, cond_f h5.out, cond_f h6.out, cond_t h7.out]
                exact bodyPost_ret (v := .bool ((bif (bif (x0 == 6#64) then true else (x0 == 7#64)) then true else (x0 == 8#64)))) (by simp [results, Tryd.results18, go_sem]) rfl ⟨(by first | (rw [HF]; done) | (rw [HF]; rfl)), HS.out.below⟩
            · replace h6 := hid h6
              -- region 15
              go_upto_region 15 with fail
              refine lin_begin (St w []) rfl HS.out ?_
              refine lin_val (i := 0) (v := .bool ((bif (x0 == 6#64) then true else (x0 == 7#64)))) rfl rfl (by rfl) (by intro x hx; go_simp; (first | done | exact rfl)) ?_
              simp only [List.set_cons_succ, List.set_cons_zero]
              refine lin_val (i := 1) (v := .bool ((bif (x0 == 6#64) then true else (x0 == 7#64)))) rfl rfl (by rfl) (by intro x hx; go_simp; (first | done | exact rfl)) ?_
              simp only [List.set_cons_succ, List.set_cons_zero]
              refine lin_if (i := 2) (v := .int .i64 (ti (x0))) (!(bif (x0 == 6#64) then true else (x0 == 7#64))) rfl rfl (by generalize (bif (x0 == 6#64) then true else (x0 == 7#64)) = gg0; cases gg0 <;> rfl) (by intro hb; have hb54 := hid (show ((bif (x0 == 6#64) then true else (x0 == 7#64))) = false from nnb hb); intro x hx; (try simp only [hb]); (try simp only [cond_true]); go_simp; (first | done | exact rfl)) ?_
              simp only [List.set_cons_succ, List.set_cons_zero]
              refine lin_if (i := 3) (v := .bool ((x0 == 8#64))) (!(bif (x0 == 6#64) then true else (x0 == 7#64))) rfl rfl (by generalize (bif (x0 == 6#64) then true else (x0 == 7#64)) = gg0; cases gg0 <;> rfl) (by intro hb; have hb55 := hid (show ((bif (x0 == 6#64) then true else (x0 == 7#64))) = false from nnb hb); intro x hx; (try simp only [hb]); (try simp only [cond_true]); go_simp; (first | done | exact eqIT x0 8#64 | exact congrArg _ (eqIT x0 8#64) | (rw [eqIT x0 8#64]; done) | (rw [eqIT x0 8#64]; rfl))) ?_
              simp only [List.set_cons_succ, List.set_cons_zero]
              refine lin_val (i := 4) (v := .bool ((bif (bif (x0 == 6#64) then true else (x0 == 7#64)) then true else (x0 == 8#64)))) rfl rfl (by rfl) (by intro x hx; (cases hq : ((bif (x0 == 6#64) then true else (x0 == 7#64))) <;> first | rfl | (simp only [hq]; rfl) | simp [hq])) ?_
              simp only [List.set_cons_succ, List.set_cons_zero]
              refine lin_val (i := 5) (v := .bool ((bif (bif (x0 == 6#64) then true else (x0 == 7#64)) then true else (x0 == 8#64)))) rfl rfl (by rfl) (by intro x hx; go_simp; (first | done | exact rfl)) ?_
              simp only [List.set_cons_succ, List.set_cons_zero]
              refine lin_done ?_
              intro W11 hx
              replace HS := hid hx
              clear hx
              go_wp2
              have HF : ref_May x0 x1 = (bif (bif (x0 == 6#64) then true else (x0 == 7#64)) then true else (x0 == 8#64)) := by
                unfold ref_May
                rw [cond_f h1.out, cond_f h2.out, cond_f h3.out, cond_f h4.out, cond_f h5.out, cond_t h6.out]
              exact bodyPost_ret (v := .bool ((bif (bif (x0 == 6#64) then true else (x0 == 7#64)) then true else (x0 == 8#64)))) (by simp [results, Tryd.results18, go_sem]) rfl ⟨(by first | (rw [HF]; done) | (rw [HF]; rfl)), HS.out.below⟩
          · replace h5 := hid h5
            -- region 12
            go_upto_region 12 with fail
            refine lin_begin (St w []) rfl HS.out ?_
            refine lin_val (i := 0) (v := .bool ((bif (x0 == 4#64) then true else (x0 == 5#64)))) rfl rfl (by rfl) (by intro x hx; go_simp; (first | done | exact rfl)) ?_
            simp only [List.set_cons_succ, List.set_cons_zero]
            refine lin_val (i := 1) (v := .bool ((bif (x0 == 4#64) then true else (x0 == 5#64)))) rfl rfl (by rfl) (by intro x hx; go_simp; (first | done | exact rfl)) ?_
            simp only [List.set_cons_succ, List.set_cons_zero]
            refine lin_done ?_
            intro W10 hx
            replace HS := hid hx
            clear hx
            go_wp2
            have HF : ref_May x0 x1 = (bif (x0 == 4#64) then true else (x0 == 5#64)) := by
              unfold ref_May
              rw [cond_f h1.out, cond_f h2.out, cond_f h3.out, cond_f h4.out, cond_t h5.out]
            exact bodyPost_ret (v := .bool ((bif (x0 == 4#64) then true else (x0 == 5#64)))) (by simp [results, Tryd.results18, go_sem]) rfl ⟨(by first | (rw [HF]; done) | (rw [HF]; rfl)), HS.out.below⟩
        · replace h4 := hid h4
          -- region 10
          go_upto_region 10 with fail
          refine lin_begin (St w []) rfl HS.out ?_
          refine lin_val (i := 0) (v := .bool ((bif (x0 == 4#64) then true else (x0 == 5#64)))) rfl rfl (by rfl) (by intro x hx; go_simp; (first | done | exact rfl)) ?_
          simp only [List.set_cons_succ, List.set_cons_zero]
          refine lin_val (i := 1) (v := .bool ((bif (x0 == 4#64) then true else (x0 == 5#64)))) rfl rfl (by rfl) (by intro x hx; go_simp; (first | done | exact rfl)) ?_
          simp only [List.set_cons_succ, List.set_cons_zero]
          refine lin_if (i := 2) (v := .int .i64 (ti (x0))) (!(bif (x0 == 4#64) then true else (x0 == 5#64))) rfl rfl (by generalize (bif (x0 == 4#64) then true else (x0 == 5#64)) = gg0; cases gg0 <;> rfl) (by intro hb; have hb56 := hid (show ((bif (x0 == 4#64) then true else (x0 == 5#64))) = false from nnb hb); intro x hx; (try simp only [hb]); (try simp only [cond_true]); go_simp; (first | done | exact rfl)) ?_
          simp only [List.set_cons_succ, List.set_cons_zero]
          refine lin_if_call (i := 3) (f := 26) (args := #[.int .i64 (ti (x0))]) (v := .bool ((bif (x0 == 9#64) then true else (x0 == 10#64)))) (!(bif (x0 == 4#64) then true else (x0 == 5#64))) (st_ups _ _) rfl rfl (by generalize (bif (x0 == 4#64) then true else (x0 == 5#64)) = gg0; cases gg0 <;> rfl) (by intro hb; have hb57 := hid (show ((bif (x0 == 4#64) then true else (x0 == 5#64))) = false from nnb hb); intro x hx; (try simp only [hb]); (try simp only [cond_true]); kernel_rfl) (by intro hb; have hb57 := hid (show ((bif (x0 == 4#64) then true else (x0 == 5#64))) = false from nnb hb); intro x hx; exact ref_Nested_any x0 _) ?_
          simp only [List.set_cons_succ, List.set_cons_zero]
          refine lin_val (i := 4) (v := .bool ((bif (bif (x0 == 4#64) then true else (x0 == 5#64)) then true else (bif (x0 == 9#64) then true else (x0 == 10#64))))) rfl rfl (by rfl) (by intro x hx; (cases hq : ((bif (x0 == 4#64) then true else (x0 == 5#64))) <;> first | rfl | (simp only [hq]; rfl) | simp [hq])) ?_
          simp only [List.set_cons_succ, List.set_cons_zero]
          refine lin_val (i := 5) (v := .bool ((bif (bif (x0 == 4#64) then true else (x0 == 5#64)) then true else (bif (x0 == 9#64) then true else (x0 == 10#64))))) rfl rfl (by rfl) (by intro x hx; go_simp; (first | done | exact rfl)) ?_
          simp only [List.set_cons_succ, List.set_cons_zero]
          refine lin_done ?_
          intro W9 hx
          replace HS := hid hx
          clear hx
          go_wp2
          have HF : ref_May x0 x1 = (bif (bif (x0 == 4#64) then true else (x0 == 5#64)) then true else (bif (x0 == 9#64) then true else (x0 == 10#64))) := by
            unfold ref_May
            rw [cond_f h1.out, cond_f h2.out, cond_f h3.out, cond_t h4.out]
          exact bodyPost_ret (v := .bool ((bif (bif (x0 == 4#64) then true else (x0 == 5#64)) then true else (bif (x0 == 9#64) then true else (x0 == 10#64))))) (by simp [results, Tryd.results18, go_sem]) rfl ⟨(by first | (rw [HF]; done) | (rw [HF]; rfl)), HS.out.below⟩
      · replace h3 := hid h3
        -- region 8
        go_upto_region 8 with fail
        refine lin_begin (St w []) rfl HS.out ?_
        refine lin_val (i := 0) (v := .bool ((bif (bif (x0 == 1#64) then true else (x0 == 2#64)) then true else (x0 == 3#64)))) rfl rfl (by rfl) (by intro x hx; go_simp; (first | done | exact rfl)) ?_
        simp only [List.set_cons_succ, List.set_cons_zero]
        refine lin_val (i := 1) (v := .bool ((bif (bif (x0 == 1#64) then true else (x0 == 2#64)) then true else (x0 == 3#64)))) rfl rfl (by rfl) (by intro x hx; go_simp; (first | done | exact rfl)) ?_
        simp only [List.set_cons_succ, List.set_cons_zero]
        refine lin_if (i := 2) (v := .bool ((bif (x0 == 4#64) then true else (x0 == 5#64)))) (!(bif (bif (x0 == 1#64) then true else (x0 == 2#64)) then true else (x0 == 3#64))) rfl rfl (by generalize (bif (bif (x0 == 1#64) then true else (x0 == 2#64)) then true else (x0 == 3#64)) = gg0; cases gg0 <;> rfl) (by intro hb; have hb58 := hid (show ((bif (bif (x0 == 1#64) then true else (x0 == 2#64)) then true else (x0 == 3#64))) = false from nnb hb); intro x hx; (try simp only [hb]); (try simp only [cond_true]); go_simp; (first | done | exact rfl)) ?_
        simp only [List.set_cons_succ, List.set_cons_zero]
        refine lin_val (i := 3) (v := .bool ((bif (bif (bif (x0 == 1#64) then true else (x0 == 2#64)) then true else (x0 == 3#64)) then true else (bif (x0 == 4#64) then true else (x0 == 5#64))))) rfl rfl (by rfl) (by intro x hx; (cases hq : ((bif (bif (x0 == 1#64) then true else (x0 == 2#64)) then true else (x0 == 3#64))) <;> first | rfl | (simp only [hq]; rfl) | simp [hq])) ?_
        simp only [List.set_cons_succ, List.set_cons_zero]
        refine lin_val (i := 4) (v := .bool ((bif (bif (bif (x0 == 1#64) then true else (x0 == 2#64)) then true else (x0 == 3#64)) then true else (bif (x0 == 4#64) then true else (x0 == 5#64))))) rfl rfl (by rfl) (by intro x hx; go_simp; (first | done | exact rfl)) ?_
        simp only [List.set_cons_succ, List.set_cons_zero]
        refine lin_if (i := 5) (v := .int .i64 (ti (x0))) (!(bif (bif (bif (x0 == 1#64) then true else (x0 == 2#64)) then true else (x0 == 3#64)) then true else (bif (x0 == 4#64) then true else (x0 == 5#64)))) rfl rfl (by generalize (bif (bif (bif (x0 == 1#64) then true else (x0 == 2#64)) then true else (x0 == 3#64)) then true else (bif (x0 == 4#64) then true else (x0 == 5#64))) = gg0; cases gg0 <;> rfl) (by intro hb; have hb59 := hid (show ((bif (bif (bif (x0 == 1#64) then true else (x0 == 2#64)) then true else (x0 == 3#64)) then true else (bif (x0 == 4#64) then true else (x0 == 5#64)))) = false from nnb hb); intro x hx; (try simp only [hb]); (try simp only [cond_true]); go_simp; (first | done | exact rfl)) ?_
        simp only [List.set_cons_succ, List.set_cons_zero]
        refine lin_if_call (i := 6) (f := 26) (args := #[.int .i64 (ti (x0))]) (v := .bool ((bif (x0 == 9#64) then true else (x0 == 10#64)))) (!(bif (bif (bif (x0 == 1#64) then true else (x0 == 2#64)) then true else (x0 == 3#64)) then true else (bif (x0 == 4#64) then true else (x0 == 5#64)))) (st_ups _ _) rfl rfl (by generalize (bif (bif (bif (x0 == 1#64) then true else (x0 == 2#64)) then true else (x0 == 3#64)) then true else (bif (x0 == 4#64) then true else (x0 == 5#64))) = gg0; cases gg0 <;> rfl) (by intro hb; have hb60 := hid (show ((bif (bif (bif (x0 == 1#64) then true else (x0 == 2#64)) then true else (x0 == 3#64)) then true else (bif (x0 == 4#64) then true else (x0 == 5#64)))) = false from nnb hb); intro x hx; (try simp only [hb]); (try simp only [cond_true]); kernel_rfl) (by intro hb; have hb60 := hid (show ((bif (bif (bif (x0 == 1#64) then true else (x0 == 2#64)) then true else (x0 == 3#64)) then true else (bif (x0 == 4#64) then true else (x0 == 5#64)))) = false from nnb hb); intro x hx; exact ref_Nested_any x0 _) ?_
        simp only [List.set_cons_succ, List.set_cons_zero]
        refine lin_val (i := 7) (v := .bool ((bif (bif (bif (bif (x0 == 1#64) then true else (x0 == 2#64)) then true else (x0 == 3#64)) then true else (bif (x0 == 4#64) then true else (x0 == 5#64))) then true else (bif (x0 == 9#64) then true else (x0 == 10#64))))) rfl rfl (by rfl) (by intro x hx; (cases hq : ((bif (bif (bif (x0 == 1#64) then true else (x0 == 2#64)) then true else (x0 == 3#64)) then true else (bif (x0 == 4#64) then true else (x0 == 5#64)))) <;> first | rfl | (simp only [hq]; rfl) | simp [hq])) ?_
        simp only [List.set_cons_succ, List.set_cons_zero]
        refine lin_val (i := 8) (v := .bool ((bif (bif (bif (bif (x0 == 1#64) then true else (x0 == 2#64)) then true else (x0 == 3#64)) then true else (bif (x0 == 4#64) then true else (x0 == 5#64))) then true else (bif (x0 == 9#64) then true else (x0 == 10#64))))) rfl rfl (by rfl) (by intro x hx; go_simp; (first | done | exact rfl)) ?_
        simp only [List.set_cons_succ, List.set_cons_zero]
        refine lin_done ?_
        intro W8 hx
        replace HS := hid hx
        clear hx
        go_wp2
        have HF : ref_May x0 x1 = (bif (bif (bif (bif (x0 == 1#64) then true else (x0 == 2#64)) then true else (x0 == 3#64)) then true else (bif (x0 == 4#64) then true else (x0 == 5#64))) then true else (bif (x0 == 9#64) then true else (x0 == 10#64))) := by
          unfold ref_May
          rw [cond_f h1.out, cond_f h2.out, cond_t h3.out]
        exact bodyPost_ret (v := .bool ((bif (bif (bif (bif (x0 == 1#64) then true else (x0 == 2#64)) then true else (x0 == 3#64)) then true else (bif (x0 == 4#64) then true else (x0 == 5#64))) then true else (bif (x0 == 9#64) then true else (x0 == 10#64))))) (by simp [results, Tryd.results18, go_sem]) rfl ⟨(by first | (rw [HF]; done) | (rw [HF]; rfl)), HS.out.below⟩
    · replace h2 := hid h2
      -- region 8
      go_upto_region 8 with fail
      refine lin_begin (St w []) rfl HS.out ?_
      refine lin_val (i := 0) (v := .bool ((bif (bif (x0 == 1#64) then true else (x0 == 2#64)) then true else (x0 == 3#64)))) rfl rfl (by rfl) (by intro x hx; go_simp; (first | done | exact rfl)) ?_
      simp only [List.set_cons_succ, List.set_cons_zero]
      refine lin_val (i := 1) (v := .bool ((bif (bif (x0 == 1#64) then true else (x0 == 2#64)) then true else (x0 == 3#64)))) rfl rfl (by rfl) (by intro x hx; go_simp; (first | done | exact rfl)) ?_
      simp only [List.set_cons_succ, List.set_cons_zero]
      refine lin_if (i := 2) (v := .bool ((bif (x0 == 4#64) then true else (x0 == 5#64)))) (!(bif (bif (x0 == 1#64) then true else (x0 == 2#64)) then true else (x0 == 3#64))) rfl rfl (by generalize (bif (bif (x0 == 1#64) then true else (x0 == 2#64)) then true else (x0 == 3#64)) = gg0; cases gg0 <;> rfl) (by intro hb; have hb61 := hid (show ((bif (bif (x0 == 1#64) then true else (x0 == 2#64)) then true else (x0 == 3#64))) = false from nnb hb); intro x hx; (try simp only [hb]); (try simp only [cond_true]); go_simp; (first | done | exact rfl)) ?_
      simp only [List.set_cons_succ, List.set_cons_zero]
      refine lin_val (i := 3) (v := .bool ((bif (bif (bif (x0 == 1#64) then true else (x0 == 2#64)) then true else (x0 == 3#64)) then true else (bif (x0 == 4#64) then true else (x0 == 5#64))))) rfl rfl (by rfl) (by intro x hx; (cases hq : ((bif (bif (x0 == 1#64) then true else (x0 == 2#64)) then true else (x0 == 3#64))) <;> first | rfl | (simp only [hq]; rfl) | simp [hq])) ?_
      simp only [List.set_cons_succ, List.set_cons_zero]
      refine lin_val (i := 4) (v := .bool ((bif (bif (bif (x0 == 1#64) then true else (x0 == 2#64)) then true else (x0 == 3#64)) then true else (bif (x0 == 4#64) then true else (x0 == 5#64))))) rfl rfl (by rfl) (by intro x hx; go_simp; (first | done | exact rfl)) ?_
      simp only [List.set_cons_succ, List.set_cons_zero]
      refine lin_if (i := 5) (v := .int .i64 (ti (x0))) (!(bif (bif (bif (x0 == 1#64) then true else (x0 == 2#64)) then true else (x0 == 3#64)) then true else (bif (x0 == 4#64) then true else (x0 == 5#64)))) rfl rfl (by generalize (bif (bif (bif (x0 == 1#64) then true else (x0 == 2#64)) then true else (x0 == 3#64)) then true else (bif (x0 == 4#64) then true else (x0 == 5#64))) = gg0; cases gg0 <;> rfl) (by intro hb; have hb62 := hid (show ((bif (bif (bif (x0 == 1#64) then true else (x0 == 2#64)) then true else (x0 == 3#64)) then true else (bif (x0 == 4#64) then true else (x0 == 5#64)))) = false from nnb hb); intro x hx; (try simp only [hb]); (try simp only [cond_true]); go_simp; (first | done | exact rfl)) ?_
      simp only [List.set_cons_succ, List.set_cons_zero]
      refine lin_if_call (i := 6) (f := 26) (args := #[.int .i64 (ti (x0))]) (v := .bool ((bif (x0 == 9#64) then true else (x0 == 10#64)))) (!(bif (bif (bif (x0 == 1#64) then true else (x0 == 2#64)) then true else (x0 == 3#64)) then true else (bif (x0 == 4#64) then true else (x0 == 5#64)))) (st_ups _ _) rfl rfl (by generalize (bif (bif (bif (x0 == 1#64) then true else (x0 == 2#64)) then true else (x0 == 3#64)) then true else (bif (x0 == 4#64) then true else (x0 == 5#64))) = gg0; cases gg0 <;> rfl) (by intro hb; have hb63 := hid (show ((bif (bif (bif (x0 == 1#64) then true else (x0 == 2#64)) then true else (x0 == 3#64)) then true else (bif (x0 == 4#64) then true else (x0 == 5#64)))) = false from nnb hb); intro x hx; (try simp only [hb]); (try simp only [cond_true]); kernel_rfl) (by intro hb; have hb63 := hid (show ((bif (bif (bif (x0 == 1#64) then true else (x0 == 2#64)) then true else (x0 == 3#64)) then true else (bif (x0 == 4#64) then true else (x0 == 5#64)))) = false from nnb hb); intro x hx; exact ref_Nested_any x0 _) ?_
      simp only [List.set_cons_succ, List.set_cons_zero]
      refine lin_val (i := 7) (v := .bool ((bif (bif (bif (bif (x0 == 1#64) then true else (x0 == 2#64)) then true else (x0 == 3#64)) then true else (bif (x0 == 4#64) then true else (x0 == 5#64))) then true else (bif (x0 == 9#64) then true else (x0 == 10#64))))) rfl rfl (by rfl) (by intro x hx; (cases hq : ((bif (bif (bif (x0 == 1#64) then true else (x0 == 2#64)) then true else (x0 == 3#64)) then true else (bif (x0 == 4#64) then true else (x0 == 5#64)))) <;> first | rfl | (simp only [hq]; rfl) | simp [hq])) ?_
      simp only [List.set_cons_succ, List.set_cons_zero]
      refine lin_val (i := 8) (v := .bool ((bif (bif (bif (bif (x0 == 1#64) then true else (x0 == 2#64)) then true else (x0 == 3#64)) then true else (bif (x0 == 4#64) then true else (x0 == 5#64))) then true else (bif (x0 == 9#64) then true else (x0 == 10#64))))) rfl rfl (by rfl) (by intro x hx; go_simp; (first | done | exact rfl)) ?_
      simp only [List.set_cons_succ, List.set_cons_zero]
      refine lin_done ?_
      intro W7 hx
      replace HS := hid hx
      clear hx
      go_wp2
      have HF : ref_May x0 x1 = (bif (bif (bif (bif (x0 == 1#64) then true else (x0 == 2#64)) then true else (x0 == 3#64)) then true else (bif (x0 == 4#64) then true else (x0 == 5#64))) then true else (bif (x0 == 9#64) then true else (x0 == 10#64))) := by
        unfold ref_May
        rw [cond_f h1.out, cond_t h2.out]
      exact bodyPost_ret (v := .bool ((bif (bif (bif (bif (x0 == 1#64) then true else (x0 == 2#64)) then true else (x0 == 3#64)) then true else (bif (x0 == 4#64) then true else (x0 == 5#64))) then true else (bif (x0 == 9#64) then true else (x0 == 10#64))))) (by simp [results, Tryd.results18, go_sem]) rfl ⟨(by first | (rw [HF]; done) | (rw [HF]; rfl)), HS.out.below⟩
  · replace h1 := hid h1
    -- region 8
    go_upto_region 8 with fail
    refine lin_begin (St w []) rfl HS.out ?_
    refine lin_val (i := 0) (v := .bool ((bif (bif (x0 == 1#64) then true else (x0 == 2#64)) then true else (x0 == 3#64)))) rfl rfl (by rfl) (by intro x hx; go_simp; (first | done | exact rfl)) ?_
    simp only [List.set_cons_succ, List.set_cons_zero]
    refine lin_val (i := 1) (v := .bool ((bif (bif (x0 == 1#64) then true else (x0 == 2#64)) then true else (x0 == 3#64)))) rfl rfl (by rfl) (by intro x hx; go_simp; (first | done | exact rfl)) ?_
    simp only [List.set_cons_succ, List.set_cons_zero]
    refine lin_if (i := 2) (v := .bool ((bif (x0 == 4#64) then true else (x0 == 5#64)))) (!(bif (bif (x0 == 1#64) then true else (x0 == 2#64)) then true else (x0 == 3#64))) rfl rfl (by generalize (bif (bif (x0 == 1#64) then true else (x0 == 2#64)) then true else (x0 == 3#64)) = gg0; cases gg0 <;> rfl) (by intro hb; have hb64 := hid (show ((bif (bif (x0 == 1#64) then true else (x0 == 2#64)) then true else (x0 == 3#64))) = false from nnb hb); intro x hx; (try simp only [hb]); (try simp only [cond_true]); go_simp; (first | done | exact rfl)) ?_
    simp only [List.set_cons_succ, List.set_cons_zero]
    refine lin_val (i := 3) (v := .bool ((bif (bif (bif (x0 == 1#64) then true else (x0 == 2#64)) then true else (x0 == 3#64)) then true else (bif (x0 == 4#64) then true else (x0 == 5#64))))) rfl rfl (by rfl) (by intro x hx; (cases hq : ((bif (bif (x0 == 1#64) then true else (x0 == 2#64)) then true else (x0 == 3#64))) <;> first | rfl | (simp only [hq]; rfl) | simp [hq])) ?_
    simp only [List.set_cons_succ, List.set_cons_zero]
    refine lin_val (i := 4) (v := .bool ((bif (bif (bif (x0 == 1#64) then true else (x0 == 2#64)) then true else (x0 == 3#64)) then true else (bif (x0 == 4#64) then true else (x0 == 5#64))))) rfl rfl (by rfl) (by intro x hx; go_simp; (first | done | exact rfl)) ?_
    simp only [List.set_cons_succ, List.set_cons_zero]
    refine lin_if (i := 5) (v := .int .i64 (ti (x0))) (!(bif (bif (bif (x0 == 1#64) then true else (x0 == 2#64)) then true else (x0 == 3#64)) then true else (bif (x0 == 4#64) then true else (x0 == 5#64)))) rfl rfl (by generalize (bif (bif (bif (x0 == 1#64) then true else (x0 == 2#64)) then true else (x0 == 3#64)) then true else (bif (x0 == 4#64) then true else (x0 == 5#64))) = gg0; cases gg0 <;> rfl) (by intro hb; have hb65 := hid (show ((bif (bif (bif (x0 == 1#64) then true else (x0 == 2#64)) then true else (x0 == 3#64)) then true else (bif (x0 == 4#64) then true else (x0 == 5#64)))) = false from nnb hb); intro x hx; (try simp only [hb]); (try simp only [cond_true]); go_simp; (first | done | exact rfl)) ?_
    simp only [List.set_cons_succ, List.set_cons_zero]
    refine lin_if_call (i := 6) (f := 26) (args := #[.int .i64 (ti (x0))]) (v := .bool ((bif (x0 == 9#64) then true else (x0 == 10#64)))) (!(bif (bif (bif (x0 == 1#64) then true else (x0 == 2#64)) then true else (x0 == 3#64)) then true else (bif (x0 == 4#64) then true else (x0 == 5#64)))) (st_ups _ _) rfl rfl (by generalize (bif (bif (bif (x0 == 1#64) then true else (x0 == 2#64)) then true else (x0 == 3#64)) then true else (bif (x0 == 4#64) then true else (x0 == 5#64))) = gg0; cases gg0 <;> rfl) (by intro hb; have hb66 := hid (show ((bif (bif (bif (x0 == 1#64) then true else (x0 == 2#64)) then true else (x0 == 3#64)) then true else (bif (x0 == 4#64) then true else (x0 == 5#64)))) = false from nnb hb); intro x hx; (try simp only [hb]); (try simp only [cond_true]); kernel_rfl) (by intro hb; have hb66 := hid (show ((bif (bif (bif (x0 == 1#64) then true else (x0 == 2#64)) then true else (x0 == 3#64)) then true else (bif (x0 == 4#64) then true else (x0 == 5#64)))) = false from nnb hb); intro x hx; exact ref_Nested_any x0 _) ?_
    simp only [List.set_cons_succ, List.set_cons_zero]
    refine lin_val (i := 7) (v := .bool ((bif (bif (bif (bif (x0 == 1#64) then true else (x0 == 2#64)) then true else (x0 == 3#64)) then true else (bif (x0 == 4#64) then true else (x0 == 5#64))) then true else (bif (x0 == 9#64) then true else (x0 == 10#64))))) rfl rfl (by rfl) (by intro x hx; (cases hq : ((bif (bif (bif (x0 == 1#64) then true else (x0 == 2#64)) then true else (x0 == 3#64)) then true else (bif (x0 == 4#64) then true else (x0 == 5#64)))) <;> first | rfl | (simp only [hq]; rfl) | simp [hq])) ?_
    simp only [List.set_cons_succ, List.set_cons_zero]
    refine lin_val (i := 8) (v := .bool ((bif (bif (bif (bif (x0 == 1#64) then true else (x0 == 2#64)) then true else (x0 == 3#64)) then true else (bif (x0 == 4#64) then true else (x0 == 5#64))) then true else (bif (x0 == 9#64) then true else (x0 == 10#64))))) rfl rfl (by rfl) (by intro x hx; go_simp; (first | done | exact rfl)) ?_
    simp only [List.set_cons_succ, List.set_cons_zero]
    refine lin_done ?_
    intro W6 hx
    replace HS := hid hx
    clear hx
    go_wp2
    have HF : ref_May x0 x1 = (bif (bif (bif (bif (x0 == 1#64) then true else (x0 == 2#64)) then true else (x0 == 3#64)) then true else (bif (x0 == 4#64) then true else (x0 == 5#64))) then true else (bif (x0 == 9#64) then true else (x0 == 10#64))) := by
      unfold ref_May
      rw [cond_t h1.out]
    exact bodyPost_ret (v := .bool ((bif (bif (bif (bif (x0 == 1#64) then true else (x0 == 2#64)) then true else (x0 == 3#64)) then true else (bif (x0 == 4#64) then true else (x0 == 5#64))) then true else (bif (x0 == 9#64) then true else (x0 == 10#64))))) (by simp [results, Tryd.results18, go_sem]) rfl ⟨(by first | (rw [HF]; done) | (rw [HF]; rfl)), HS.out.below⟩
def ref_Ahead (x0 : Dc) (x1 : BitVec 64) (x2 : BitVec 64)  : Bool :=
  bif (bif (x0.kind == 4#64) then true else (x0.kind == 10#64)) then (bif ((ref_Bucket x1 x0.buckets) != (ref_Bucket x2 x0.buckets)) then (ltI (ref_Bucket x1 x0.buckets) (ref_Bucket x2 x0.buckets)) else (ltU x1 x2)) else (ltU x1 x2)
set_option maxRecDepth 100000 in
set_option maxHeartbeats 1000000 in
theorem ref_Ahead_any (x0 : Dc) (x1 : BitVec 64) (x2 : BitVec 64)    (w : World) :
    Calls Tryd.prog 22 #[.agg #[.int .i64 (ti (x0.kind)), .int .i64 (ti (x0.entries)), .int .i64 (ti (x0.words)), .int .i64 (ti (x0.buckets)), .int .i64 (ti (x0.inner))], .int .u64 (tn (x1)), .int .u64 (tn (x2))] w fun e w' => e = .returned (.bool (ref_Ahead x0 x1 x2)) ∧ Below w.heap.size w w' := by
  go_enter Tryd.func22, Tryd.ntmps22
  have HS := hid ((st_nil w).alloc (k := w.heap.size) rfl [.int .i64 (ti (x0.kind)), .int .i64 (ti (x0.entries)), .int .i64 (ti (x0.words)), .int .i64 (ti (x0.buckets)), .int .i64 (ti (x0.inner))] 30)
  -- region 1
  go_upto_region 1 with fail
  refine lin_begin (St w [⟨w.heap.size, [some (.int .i64 (ti (x0.kind))), some (.int .i64 (ti (x0.entries))), some (.int .i64 (ti (x0.words))), some (.int .i64 (ti (x0.buckets))), some (.int .i64 (ti (x0.inner)))], 30⟩]) rfl HS.out ?_
  refine lin_val (i := 0) (v := .pointer (some ⟨w.heap.size, 0, none⟩)) rfl rfl (by rfl) (by intro x hx; go_simp; (first | done | exact rfl)) ?_
  simp only [List.set_cons_succ, List.set_cons_zero]
  refine lin_val (i := 1) (v := .int .i64 (ti (x0.kind))) rfl rfl (by rfl) (by intro x hx; have f0 := hx.load 0 0 rfl rfl; go_simp; (first | done | exact rfl)) ?_
  simp only [List.set_cons_succ, List.set_cons_zero]
  refine lin_val (i := 2) (v := .bool ((x0.kind == 4#64))) rfl rfl (by rfl) (by intro x hx; go_simp; (first | done | exact eqIT x0.kind 4#64 | exact congrArg _ (eqIT x0.kind 4#64) | (rw [eqIT x0.kind 4#64]; done) | (rw [eqIT x0.kind 4#64]; rfl))) ?_
  simp only [List.set_cons_succ, List.set_cons_zero]
  refine lin_val (i := 3) (v := .bool ((x0.kind == 4#64))) rfl rfl (by rfl) (by intro x hx; go_simp; (first | done | exact rfl)) ?_
  simp only [List.set_cons_succ, List.set_cons_zero]
  refine lin_if (i := 4) (v := .pointer (some ⟨w.heap.size, 0, none⟩)) (!(x0.kind == 4#64)) rfl rfl (by generalize (x0.kind == 4#64) = gg0; cases gg0 <;> rfl) (by intro hb; have hb67 := hid (show ((x0.kind == 4#64)) = false from nnb hb); intro x hx; (try simp only [hb]); (try simp only [cond_true]); go_simp; (first | done | exact rfl)) ?_
  simp only [List.set_cons_succ, List.set_cons_zero]
  refine lin_if (i := 5) (v := .int .i64 (ti (x0.kind))) (!(x0.kind == 4#64)) rfl rfl (by generalize (x0.kind == 4#64) = gg0; cases gg0 <;> rfl) (by intro hb; have hb68 := hid (show ((x0.kind == 4#64)) = false from nnb hb); intro x hx; (try simp only [hb]); (try simp only [cond_true]); have f0 := hx.load 0 0 rfl rfl; go_simp; (first | done | exact rfl)) ?_
  simp only [List.set_cons_succ, List.set_cons_zero]
  refine lin_if (i := 6) (v := .bool ((x0.kind == 10#64))) (!(x0.kind == 4#64)) rfl rfl (by generalize (x0.kind == 4#64) = gg0; cases gg0 <;> rfl) (by intro hb; have hb69 := hid (show ((x0.kind == 4#64)) = false from nnb hb); intro x hx; (try simp only [hb]); (try simp only [cond_true]); go_simp; (first | done | exact eqIT x0.kind 10#64 | exact congrArg _ (eqIT x0.kind 10#64) | (rw [eqIT x0.kind 10#64]; done) | (rw [eqIT x0.kind 10#64]; rfl))) ?_
  simp only [List.set_cons_succ, List.set_cons_zero]
  refine lin_val (i := 7) (v := .bool ((bif (x0.kind == 4#64) then true else (x0.kind == 10#64)))) rfl rfl (by rfl) (by intro x hx; (cases hq : ((x0.kind == 4#64)) <;> first | rfl | (simp only [hq]; rfl) | simp [hq])) ?_
  simp only [List.set_cons_succ, List.set_cons_zero]
  refine lin_done ?_
  intro W1 hx
  replace HS := hid hx
  clear hx
  cases h1 : ((bif (x0.kind == 4#64) then true else (x0.kind == 10#64)))
  · replace h1 := hid h1
    -- region 6
    go_upto_region 6 with fail
    refine lin_begin (St w [⟨w.heap.size, [some (.int .i64 (ti (x0.kind))), some (.int .i64 (ti (x0.entries))), some (.int .i64 (ti (x0.words))), some (.int .i64 (ti (x0.buckets))), some (.int .i64 (ti (x0.inner)))], 30⟩]) rfl HS.out ?_
    refine lin_val (i := 0) (v := .int .u64 (tn (x1))) rfl rfl (by rfl) (by intro x hx; go_simp; (first | done | exact rfl)) ?_
    simp only [List.set_cons_succ, List.set_cons_zero]
    refine lin_val (i := 1) (v := .int .u64 (tn (x2))) rfl rfl (by rfl) (by intro x hx; go_simp; (first | done | exact rfl)) ?_
    simp only [List.set_cons_succ, List.set_cons_zero]
    refine lin_val (i := 2) (v := .bool (ltU x1 x2)) rfl rfl (by rfl) (by intro x hx; go_simp; (first | done | exact ltUT x1 x2 | exact congrArg _ (ltUT x1 x2) | (rw [ltUT x1 x2]; done) | (rw [ltUT x1 x2]; rfl))) ?_
    simp only [List.set_cons_succ, List.set_cons_zero]
    refine lin_val (i := 3) (v := .bool (ltU x1 x2)) rfl rfl (by rfl) (by intro x hx; go_simp; (first | done | exact rfl)) ?_
    simp only [List.set_cons_succ, List.set_cons_zero]
    refine lin_done ?_
    intro W2 hx
    replace HS := hid hx
    clear hx
    go_wp2
    have HF : ref_Ahead x0 x1 x2 = ltU x1 x2 := by
      unfold ref_Ahead
      rw [cond_f h1.out]
    exact bodyPost_ret (v := .bool (ltU x1 x2)) (by simp [results, Tryd.results22, go_sem]) rfl ⟨(by first | (rw [HF]; done) | (rw [HF]; rfl)), HS.out.below⟩
  · replace h1 := hid h1
    -- region 2
    go_upto_region 2 with fail
    refine lin_begin (St w [⟨w.heap.size, [some (.int .i64 (ti (x0.kind))), some (.int .i64 (ti (x0.entries))), some (.int .i64 (ti (x0.words))), some (.int .i64 (ti (x0.buckets))), some (.int .i64 (ti (x0.inner)))], 30⟩]) rfl HS.out ?_
    refine lin_val (i := 0) (v := .int .u64 (tn (x1))) rfl rfl (by rfl) (by intro x hx; go_simp; (first | done | exact rfl)) ?_
    simp only [List.set_cons_succ, List.set_cons_zero]
    refine lin_val (i := 1) (v := .pointer (some ⟨w.heap.size, 3, none⟩)) rfl rfl (by rfl) (by intro x hx; go_simp; (first | done | exact rfl)) ?_
    simp only [List.set_cons_succ, List.set_cons_zero]
    refine lin_val (i := 2) (v := .int .i64 (ti (x0.buckets))) rfl rfl (by rfl) (by intro x hx; have f0 := hx.load 0 3 rfl rfl; go_simp; (first | done | exact rfl)) ?_
    simp only [List.set_cons_succ, List.set_cons_zero]
    refine lin_call (i := 3) (f := 20) (args := #[.int .u64 (tn (x1)), .int .i64 (ti (x0.buckets))]) (v := .int .i64 (ti (ref_Bucket x1 x0.buckets))) (st_ups _ _) rfl rfl (by rfl) (fun x hx => by kernel_rfl) (by intro x hx; exact ref_Bucket_any x1 x0.buckets _) ?_
    simp only [List.set_cons_succ, List.set_cons_zero]
    refine lin_val (i := 4) (v := .int .i64 (ti (ref_Bucket x1 x0.buckets))) rfl rfl (by rfl) (by intro x hx; go_simp; (first | done | exact rfl)) ?_
    simp only [List.set_cons_succ, List.set_cons_zero]
    refine lin_done ?_
    intro W2 hx
    replace HS := hid hx
    clear hx
    -- region 3
    go_upto_region 3 with fail
    refine lin_begin (St w [⟨w.heap.size, [some (.int .i64 (ti (x0.kind))), some (.int .i64 (ti (x0.entries))), some (.int .i64 (ti (x0.words))), some (.int .i64 (ti (x0.buckets))), some (.int .i64 (ti (x0.inner)))], 30⟩]) rfl HS.out ?_
    refine lin_val (i := 0) (v := .int .u64 (tn (x2))) rfl rfl (by rfl) (by intro x hx; go_simp; (first | done | exact rfl)) ?_
    simp only [List.set_cons_succ, List.set_cons_zero]
    refine lin_val (i := 1) (v := .pointer (some ⟨w.heap.size, 3, none⟩)) rfl rfl (by rfl) (by intro x hx; go_simp; (first | done | exact rfl)) ?_
    simp only [List.set_cons_succ, List.set_cons_zero]
    refine lin_val (i := 2) (v := .int .i64 (ti (x0.buckets))) rfl rfl (by rfl) (by intro x hx; have f0 := hx.load 0 3 rfl rfl; go_simp; (first | done | exact rfl)) ?_
    simp only [List.set_cons_succ, List.set_cons_zero]
    refine lin_call (i := 3) (f := 20) (args := #[.int .u64 (tn (x2)), .int .i64 (ti (x0.buckets))]) (v := .int .i64 (ti (ref_Bucket x2 x0.buckets))) (st_ups _ _) rfl rfl (by rfl) (fun x hx => by kernel_rfl) (by intro x hx; exact ref_Bucket_any x2 x0.buckets _) ?_
    simp only [List.set_cons_succ, List.set_cons_zero]
    refine lin_val (i := 4) (v := .int .i64 (ti (ref_Bucket x2 x0.buckets))) rfl rfl (by rfl) (by intro x hx; go_simp; (first | done | exact rfl)) ?_
    simp only [List.set_cons_succ, List.set_cons_zero]
    refine lin_done ?_
    intro W3 hx
    replace HS := hid hx
    clear hx
    -- region 4
    go_upto_region 4 with fail
    refine lin_begin (St w [⟨w.heap.size, [some (.int .i64 (ti (x0.kind))), some (.int .i64 (ti (x0.entries))), some (.int .i64 (ti (x0.words))), some (.int .i64 (ti (x0.buckets))), some (.int .i64 (ti (x0.inner)))], 30⟩]) rfl HS.out ?_
    refine lin_val (i := 0) (v := .int .i64 (ti (ref_Bucket x1 x0.buckets))) rfl rfl (by rfl) (by intro x hx; go_simp; (first | done | exact rfl)) ?_
    simp only [List.set_cons_succ, List.set_cons_zero]
    refine lin_val (i := 1) (v := .int .i64 (ti (ref_Bucket x2 x0.buckets))) rfl rfl (by rfl) (by intro x hx; go_simp; (first | done | exact rfl)) ?_
    simp only [List.set_cons_succ, List.set_cons_zero]
    refine lin_val (i := 2) (v := .bool (((ref_Bucket x1 x0.buckets) != (ref_Bucket x2 x0.buckets)))) rfl rfl (by rfl) (by intro x hx; go_simp; (first | done | exact neIT (ref_Bucket x1 x0.buckets) (ref_Bucket x2 x0.buckets) | exact congrArg _ (neIT (ref_Bucket x1 x0.buckets) (ref_Bucket x2 x0.buckets)) | (rw [neIT (ref_Bucket x1 x0.buckets) (ref_Bucket x2 x0.buckets)]; done) | (rw [neIT (ref_Bucket x1 x0.buckets) (ref_Bucket x2 x0.buckets)]; rfl))) ?_
    simp only [List.set_cons_succ, List.set_cons_zero]
    refine lin_done ?_
    intro W4 hx
    replace HS := hid hx
    clear hx
    cases h2 : (((ref_Bucket x1 x0.buckets) != (ref_Bucket x2 x0.buckets)))
    · replace h2 := hid h2
      -- region 6
      go_upto_region 6 with fail
      refine lin_begin (St w [⟨w.heap.size, [some (.int .i64 (ti (x0.kind))), some (.int .i64 (ti (x0.entries))), some (.int .i64 (ti (x0.words))), some (.int .i64 (ti (x0.buckets))), some (.int .i64 (ti (x0.inner)))], 30⟩]) rfl HS.out ?_
      refine lin_val (i := 0) (v := .int .u64 (tn (x1))) rfl rfl (by rfl) (by intro x hx; go_simp; (first | done | exact rfl)) ?_
      simp only [List.set_cons_succ, List.set_cons_zero]
      refine lin_val (i := 1) (v := .int .u64 (tn (x2))) rfl rfl (by rfl) (by intro x hx; go_simp; (first | done | exact rfl)) ?_
      simp only [List.set_cons_succ, List.set_cons_zero]
      refine lin_val (i := 2) (v := .bool (ltU x1 x2)) rfl rfl (by rfl) (by intro x hx; go_simp; (first | done | exact ltUT x1 x2 | exact congrArg _ (ltUT x1 x2) | (rw [ltUT x1 x2]; done) | (rw [ltUT x1 x2]; rfl))) ?_
      simp only [List.set_cons_succ, List.set_cons_zero]
      refine lin_val (i := 3) (v := .bool (ltU x1 x2)) rfl rfl (by rfl) (by intro x hx; go_simp; (first | done | exact rfl)) ?_
      simp only [List.set_cons_succ, List.set_cons_zero]
      refine lin_done ?_
      intro W5 hx
      replace HS := hid hx
      clear hx
      go_wp2
      have HF : ref_Ahead x0 x1 x2 = ltU x1 x2 := by
        unfold ref_Ahead
        rw [cond_t h1.out, cond_f h2.out]
      exact bodyPost_ret (v := .bool (ltU x1 x2)) (by simp [results, Tryd.results22, go_sem]) rfl ⟨(by first | (rw [HF]; done) | (rw [HF]; rfl)), HS.out.below⟩
    · replace h2 := hid h2
      -- region 5
      go_upto_region 5 with fail
      refine lin_begin (St w [⟨w.heap.size, [some (.int .i64 (ti (x0.kind))), some (.int .i64 (ti (x0.entries))), some (.int .i64 (ti (x0.words))), some (.int .i64 (ti (x0.buckets))), some (.int .i64 (ti (x0.inner)))], 30⟩]) rfl HS.out ?_
      refine lin_val (i := 0) (v := .int .i64 (ti (ref_Bucket x1 x0.buckets))) rfl rfl (by rfl) (by intro x hx; go_simp; (first | done | exact rfl)) ?_
      simp only [List.set_cons_succ, List.set_cons_zero]
      refine lin_val (i := 1) (v := .int .i64 (ti (ref_Bucket x2 x0.buckets))) rfl rfl (by rfl) (by intro x hx; go_simp; (first | done | exact rfl)) ?_
      simp only [List.set_cons_succ, List.set_cons_zero]
      refine lin_val (i := 2) (v := .bool (ltI (ref_Bucket x1 x0.buckets) (ref_Bucket x2 x0.buckets))) rfl rfl (by rfl) (by intro x hx; go_simp; (first | done | exact ltIT (ref_Bucket x1 x0.buckets) (ref_Bucket x2 x0.buckets) | exact congrArg _ (ltIT (ref_Bucket x1 x0.buckets) (ref_Bucket x2 x0.buckets)) | (rw [ltIT (ref_Bucket x1 x0.buckets) (ref_Bucket x2 x0.buckets)]; done) | (rw [ltIT (ref_Bucket x1 x0.buckets) (ref_Bucket x2 x0.buckets)]; rfl))) ?_
      simp only [List.set_cons_succ, List.set_cons_zero]
      refine lin_val (i := 3) (v := .bool (ltI (ref_Bucket x1 x0.buckets) (ref_Bucket x2 x0.buckets))) rfl rfl (by rfl) (by intro x hx; go_simp; (first | done | exact rfl)) ?_
      simp only [List.set_cons_succ, List.set_cons_zero]
      refine lin_done ?_
      intro W5 hx
      replace HS := hid hx
      clear hx
      go_wp2
      have HF : ref_Ahead x0 x1 x2 = ltI (ref_Bucket x1 x0.buckets) (ref_Bucket x2 x0.buckets) := by
        unfold ref_Ahead
        rw [cond_t h1.out, cond_t h2.out]
      exact bodyPost_ret (v := .bool (ltI (ref_Bucket x1 x0.buckets) (ref_Bucket x2 x0.buckets))) (by simp [results, Tryd.results22, go_sem]) rfl ⟨(by first | (rw [HF]; done) | (rw [HF]; rfl)), HS.out.below⟩
end Go.Proofs.YtejcjjimhaokfaaDoor.Dcl
