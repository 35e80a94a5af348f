/-
  The walk of the law TnumSays.
-/
import Derived.Deep.DeepCutAuto
import Derived.Test.YtpbhfpogbndljaaDoorRtT
namespace Go.Proofs.YtpbhfpogbndljaaDoor.Rt
open Go.RowKit Go.Proofs.YtpbhfpogbndljaaDoor.Num Go.Proofs.YtpbhfpogbndljaaDoor.Up
set_option maxRecDepth 100000 in
set_option maxHeartbeats 4000000 in
theorem law_works_any    (w : World) :
    Calls Tryd.prog 12 #[] w fun e w' => e = .returned (.bool true) ∧ Below w.heap.size w w' := by
  go_enter Tryd.func12, Tryd.ntmps12
  have HS : Hid (St w [] _) := hid (st_nil w)
  go_upto_region 1 with fail
  refine lnb HS.out rfl ?_
  refine lv 0 (.agg #[.int .u64 4, .int .u64 3]) rfl rfl (by intro x hx; go_simp; (first | done | exact rfl)) ?_
  simp only [sA, sB]
  refine lin_new (i := 1) rfl rfl (by rfl) [.int .u64 0, .int .u64 0] 24 (fun k => .pointer (some ⟨k, 0, none⟩)) [some (.int .u64 0), some (.int .u64 0)] (lessC_refl _) (by intro x hx; go_simp; (first | done | exact rfl)) (fun k1 => ?_)
  simp only [sA, sB, sD]
  refine ls 2 0 0 [.int .u64 4, .int .u64 3] rfl rfl rfl (by intro x hx; obtain ⟨⟨_, z0, q0⟩, ⟨_, z1, q1⟩⟩ := hx.at2 0 0 rfl; go_simp; (first | done | rfl)) ?_
  simp only [Blk.putC, setM, sA, sB]
  clear HS
  refine ld fun W1 HS => ?_
  go_upto_region 2 with fail
  refine lnb HS.out rfl ?_
  refine lv 0 (.agg #[.int .u64 4, .int .u64 3]) rfl rfl (by intro x hx; obtain ⟨f0, f1⟩ := hx.two 0 0 rfl rfl; go_simp; (first | done | exact rfl)) ?_
  simp only [sA, sB]
  refine lv 1 (.agg #[.int .u64 5, .int .u64 9223372036854775808]) rfl rfl (by intro x hx; go_simp; (first | done | exact rfl)) ?_
  simp only [sA, sB]
  refine lc 2 28 #[vU (P.mk 4#64 3#64), vU (P.mk 5#64 9223372036854775808#64)] (.tuple #[vU ((tnMeet (P.mk 4#64 3#64) (P.mk 5#64 9223372036854775808#64)).1), .bool ((tnMeet (P.mk 4#64 3#64) (P.mk 5#64 9223372036854775808#64)).2)]) rfl rfl (by intro x hx; exact tnMeet_any (P.mk 4#64 3#64) (P.mk 5#64 9223372036854775808#64) _) ?_
  simp only [sA, sB, vU]
  refine lm 3 10 rfl rfl rfl rfl ?_
  simp only [sA, sB]
  refine lv 4 (vU ((tnMeet (P.mk 4#64 3#64) (P.mk 5#64 9223372036854775808#64)).1)) rfl rfl (by intro x hx; go_simp; (first | done | exact rfl)) ?_
  simp only [sA, sB, vU]
  refine lv 5 (.bool ((tnMeet (P.mk 4#64 3#64) (P.mk 5#64 9223372036854775808#64)).2)) rfl rfl (by intro x hx; go_simp; (first | done | exact rfl)) ?_
  simp only [sA, sB]
  refine lin_new (i := 6) rfl rfl (by rfl) [.int .u64 0, .int .u64 0] 24 (fun k => .pointer (some ⟨k, 0, none⟩)) [some (.int .u64 0), some (.int .u64 0)] (lessC_refl _) (by intro x hx; go_simp; (first | done | exact rfl)) (fun k2 => ?_)
  simp only [sA, sB, sC, sD]
  refine ls 7 1 0 (cU ((tnMeet (P.mk 4#64 3#64) (P.mk 5#64 9223372036854775808#64)).1)) rfl rfl rfl (by intro x hx; obtain ⟨⟨_, z0, q0⟩, ⟨_, z1, q1⟩⟩ := hx.at2 1 0 rfl; go_simp; (first | done | rfl)) ?_
  simp only [Blk.putC, setM, cU, sA, sB]
  refine la 8 12 rfl rfl rfl rfl ?_
  simp only [sA, sB]
  clear HS
  refine ld fun W2 HS => ?_
  go_upto_region 3 with fail
  refine upb 9 (HS.out.drew) rfl ?_
  refine tv 0 (.agg #[.int .u64 4, .int .u64 3]) rfl rfl (by intro x hx; obtain ⟨f0, f1⟩ := hx.two 0 0 rfl rfl; go_simp; (first | done | exact rfl)) ?_
  simp only [sA, sB]
  refine tc 1 7 #[.int .u64 (tn (8#64))] (vU (P.mk 8#64 0#64)) rfl rfl (by intro x hx; exact tnOf_any 8#64 _) ?_
  simp only [sA, sB, vU]
  refine tc 2 28 #[vU (P.mk 4#64 3#64), vU (P.mk 8#64 0#64)] (.tuple #[vU ((tnMeet (P.mk 4#64 3#64) (P.mk 8#64 0#64)).1), .bool ((tnMeet (P.mk 4#64 3#64) (P.mk 8#64 0#64)).2)]) rfl rfl (by intro x hx; exact tnMeet_any (P.mk 4#64 3#64) (P.mk 8#64 0#64) _) ?_
  simp only [sA, sB, vU]
  refine tm 3 16 rfl rfl rfl rfl ?_
  simp only [sA, sB]
  refine tv 4 (vU ((tnMeet (P.mk 4#64 3#64) (P.mk 8#64 0#64)).1)) rfl rfl (by intro x hx; go_simp; (first | done | exact rfl)) ?_
  simp only [sA, sB, vU]
  refine tv 5 (.bool ((tnMeet (P.mk 4#64 3#64) (P.mk 8#64 0#64)).2)) rfl rfl (by intro x hx; go_simp; (first | done | exact rfl)) ?_
  simp only [sA, sB]
  refine take_one (i := 6) (by kernel_rfl) (step_new rfl rfl (by rfl) [.int .u64 0, .int .u64 0] 24 (fun k => .pointer (some ⟨k, 0, none⟩)) [none, none] (lessC_no (lessC_no (trivial))) (by intro x hx; go_simp; (first | done | exact rfl)) (fun k3 => ?_))
  simp only [sA, sB, sC, sD]
  refine ts 7 2 0 (cU ((tnMeet (P.mk 4#64 3#64) (P.mk 8#64 0#64)).1)) rfl rfl rfl (by intro x hx; obtain ⟨⟨_, z0, q0⟩, ⟨_, z1, q1⟩⟩ := hx.at2 2 0 rfl; go_simp; (first | done | rfl)) ?_
  simp only [Blk.putC, setM, cU, sA, sB]
  refine ta 8 18 rfl rfl rfl rfl ?_
  simp only [sA, sB]
  clear HS
  refine td fun W3 HS => ?_
  go_upto_region 4 with fail
  refine upb 41 (HS.out.drew) rfl ?_
  refine tv 0 (.agg #[.int .u64 4, .int .u64 3]) rfl rfl (by intro x hx; obtain ⟨f0, f1⟩ := hx.two 0 0 rfl rfl; go_simp; (first | done | exact rfl)) ?_
  simp only [sA, sB]
  refine tc 1 7 #[.int .u64 (tn (1#64))] (vU (P.mk 1#64 0#64)) rfl rfl (by intro x hx; exact tnOf_any 1#64 _) ?_
  simp only [sA, sB, vU]
  refine tc 2 14 #[vU (P.mk 4#64 3#64), vU (P.mk 1#64 0#64)] (vU (tnAdd (P.mk 4#64 3#64) (P.mk 1#64 0#64))) rfl rfl (by intro x hx; exact tnAdd_any (P.mk 4#64 3#64) (P.mk 1#64 0#64) _) ?_
  simp only [sA, sB, vU]
  refine tv 3 (.agg #[.int .u64 0, .int .u64 15]) rfl rfl (by intro x hx; go_simp; (first | done | exact rfl)) ?_
  simp only [sA, sB]
  refine tv 4 (.bool true) rfl rfl (by intro x hx; go_simp; (first | done | exact (eqPT (fun b => Result.ok (Next.value (Value.bool b)) x) ((tnAdd (P.mk 4#64 3#64) (P.mk 1#64 0#64)).lo) ((tnAdd (P.mk 4#64 3#64) (P.mk 1#64 0#64)).hi) 0#64 15#64).trans (congrArg (fun b => Result.ok (Next.value (Value.bool b)) x) ((show (eqP (tnAdd (P.mk 4#64 3#64) (P.mk 1#64 0#64)) (P.mk 0#64 15#64)) = true by decide +kernel))))) ?_
  simp only [sA, sB]
  refine tm 5 23 rfl rfl rfl rfl ?_
  simp only [sA, sB]
  refine tv 6 (.agg #[.int .u64 4, .int .u64 3]) rfl rfl (by intro x hx; obtain ⟨f0, f1⟩ := hx.two 0 0 rfl rfl; go_simp; (first | done | exact rfl)) ?_
  simp only [sA, sB]
  refine tc 7 7 #[.int .u64 (tn (1#64))] (vU (P.mk 1#64 0#64)) rfl rfl (by intro x hx; exact tnOf_any 1#64 _) ?_
  simp only [sA, sB, vU]
  refine tc 8 16 #[vU (P.mk 4#64 3#64), vU (P.mk 1#64 0#64)] (vU (tnOr (P.mk 4#64 3#64) (P.mk 1#64 0#64))) rfl rfl (by intro x hx; exact tnOr_any (P.mk 4#64 3#64) (P.mk 1#64 0#64) _) ?_
  simp only [sA, sB, vU]
  refine tv 9 (.agg #[.int .u64 5, .int .u64 2]) rfl rfl (by intro x hx; go_simp; (first | done | exact rfl)) ?_
  simp only [sA, sB]
  refine tv 10 (.bool true) rfl rfl (by intro x hx; go_simp; (first | done | exact (eqPT (fun b => Result.ok (Next.value (Value.bool b)) x) ((tnOr (P.mk 4#64 3#64) (P.mk 1#64 0#64)).lo) ((tnOr (P.mk 4#64 3#64) (P.mk 1#64 0#64)).hi) 5#64 2#64).trans (congrArg (fun b => Result.ok (Next.value (Value.bool b)) x) ((show (eqP (tnOr (P.mk 4#64 3#64) (P.mk 1#64 0#64)) (P.mk 5#64 2#64)) = true by decide +kernel))))) ?_
  simp only [sA, sB]
  refine tv 11 (.bool true) rfl rfl (by intro x hx; go_simp; (first | done | exact rfl)) ?_
  simp only [sA, sB]
  refine tm 12 30 rfl rfl rfl rfl ?_
  simp only [sA, sB]
  refine tv 13 (.agg #[.int .u64 4, .int .u64 3]) rfl rfl (by intro x hx; obtain ⟨f0, f1⟩ := hx.two 0 0 rfl rfl; go_simp; (first | done | exact rfl)) ?_
  simp only [sA, sB]
  refine tc 14 7 #[.int .u64 (tn (1#64))] (vU (P.mk 1#64 0#64)) rfl rfl (by intro x hx; exact tnOf_any 1#64 _) ?_
  simp only [sA, sB, vU]
  refine tc 15 15 #[vU (P.mk 4#64 3#64), vU (P.mk 1#64 0#64)] (vU (tnAnd (P.mk 4#64 3#64) (P.mk 1#64 0#64))) rfl rfl (by intro x hx; exact tnAnd_any (P.mk 4#64 3#64) (P.mk 1#64 0#64) _) ?_
  simp only [sA, sB, vU]
  refine tv 16 (.agg #[.int .u64 0, .int .u64 1]) rfl rfl (by intro x hx; go_simp; (first | done | exact rfl)) ?_
  simp only [sA, sB]
  refine tv 17 (.bool true) rfl rfl (by intro x hx; go_simp; (first | done | exact (eqPT (fun b => Result.ok (Next.value (Value.bool b)) x) ((tnAnd (P.mk 4#64 3#64) (P.mk 1#64 0#64)).lo) ((tnAnd (P.mk 4#64 3#64) (P.mk 1#64 0#64)).hi) 0#64 1#64).trans (congrArg (fun b => Result.ok (Next.value (Value.bool b)) x) ((show (eqP (tnAnd (P.mk 4#64 3#64) (P.mk 1#64 0#64)) (P.mk 0#64 1#64)) = true by decide +kernel))))) ?_
  simp only [sA, sB]
  refine tv 18 (.bool true) rfl rfl (by intro x hx; go_simp; (first | done | exact rfl)) ?_
  simp only [sA, sB]
  refine tm 19 37 rfl rfl rfl rfl ?_
  simp only [sA, sB]
  refine tv 20 (vU ((tnMeet (P.mk 4#64 3#64) (P.mk 5#64 9223372036854775808#64)).1)) rfl rfl (by intro x hx; obtain ⟨f0, f1⟩ := hx.two 1 0 rfl rfl; go_simp; (first | done | exact rfl)) ?_
  simp only [sA, sB, vU]
  refine tc 21 7 #[.int .u64 (tn (5#64))] (vU (P.mk 5#64 0#64)) rfl rfl (by intro x hx; exact tnOf_any 5#64 _) ?_
  simp only [sA, sB, vU]
  refine tv 22 (.bool true) rfl rfl (by intro x hx; go_simp; (first | done | exact (eqPT (fun b => Result.ok (Next.value (Value.bool b)) x) (((tnMeet (P.mk 4#64 3#64) (P.mk 5#64 9223372036854775808#64)).1).lo) (((tnMeet (P.mk 4#64 3#64) (P.mk 5#64 9223372036854775808#64)).1).hi) 5#64 0#64).trans (congrArg (fun b => Result.ok (Next.value (Value.bool b)) x) ((show (eqP ((tnMeet (P.mk 4#64 3#64) (P.mk 5#64 9223372036854775808#64)).1) (P.mk 5#64 0#64)) = true by decide +kernel))))) ?_
  simp only [sA, sB]
  refine tv 23 (.bool true) rfl rfl (by intro x hx; go_simp; (first | done | exact rfl)) ?_
  simp only [sA, sB]
  refine tm 24 42 rfl rfl rfl rfl ?_
  simp only [sA, sB]
  refine tv 25 (.bool ((tnMeet (P.mk 4#64 3#64) (P.mk 5#64 9223372036854775808#64)).2)) rfl rfl (by intro x hx; go_simp; (first | done | exact rfl)) ?_
  simp only [sA, sB]
  refine tv 26 (.bool ((tnMeet (P.mk 4#64 3#64) (P.mk 5#64 9223372036854775808#64)).2)) rfl rfl (by intro x hx; go_simp; (first | done | exact rfl)) ?_
  simp only [sA, sB]
  refine tm 27 45 rfl rfl rfl rfl ?_
  simp only [sA, sB]
  rw [show ((tnMeet (P.mk 4#64 3#64) (P.mk 5#64 9223372036854775808#64)).2) = true from (show ((tnMeet (P.mk 4#64 3#64) (P.mk 5#64 9223372036854775808#64)).2) = true by decide +kernel)]
  refine tv 28 (.bool ((tnMeet (P.mk 4#64 3#64) (P.mk 8#64 0#64)).2)) rfl rfl (by intro x hx; go_simp; (first | done | exact rfl)) ?_
  simp only [sA, sB]
  refine tv 29 (.bool true) rfl rfl (by intro x hx; go_simp; (first | done | (first | exact (show (!((tnMeet (P.mk 4#64 3#64) (P.mk 8#64 0#64)).2)) = true by decide +kernel) | exact eq_of_beq ((show (!((tnMeet (P.mk 4#64 3#64) (P.mk 8#64 0#64)).2)) = true by decide +kernel)) | exact congrArg _ ((show (!((tnMeet (P.mk 4#64 3#64) (P.mk 8#64 0#64)).2)) = true by decide +kernel)) | (rw [(show (!((tnMeet (P.mk 4#64 3#64) (P.mk 8#64 0#64)).2)) = true by decide +kernel)]; done) | ((first | rfl | skip); rw [(show (!((tnMeet (P.mk 4#64 3#64) (P.mk 8#64 0#64)).2)) = true by decide +kernel)]) | exact congrArg tn (eq_of_beq ((show (!((tnMeet (P.mk 4#64 3#64) (P.mk 8#64 0#64)).2)) = true by decide +kernel))) | exact congrArg ti (eq_of_beq ((show (!((tnMeet (P.mk 4#64 3#64) (P.mk 8#64 0#64)).2)) = true by decide +kernel))) | exact congrArg tn (eq_of_bne ((show (!((tnMeet (P.mk 4#64 3#64) (P.mk 8#64 0#64)).2)) = true by decide +kernel))) | simpa using ((show (!((tnMeet (P.mk 4#64 3#64) (P.mk 8#64 0#64)).2)) = true by decide +kernel))))) ?_
  simp only [sA, sB]
  refine tv 30 (.bool true) rfl rfl (by intro x hx; go_simp; (first | done | exact rfl)) ?_
  simp only [sA, sB]
  refine tm 31 49 rfl rfl rfl rfl ?_
  simp only [sA, sB]
  refine tv 32 (.agg #[.int .u64 4, .int .u64 3]) rfl rfl (by intro x hx; obtain ⟨f0, f1⟩ := hx.two 0 0 rfl rfl; go_simp; (first | done | exact rfl)) ?_
  simp only [sA, sB]
  refine tc 33 13 #[vU (P.mk 4#64 3#64), .int .u64 (tn (7#64))] (.bool true) rfl rfl (by intro x hx; exact calls_is (tnIn_any (P.mk 4#64 3#64) 7#64 _) (congrArg Value.bool ((show (tnIn (P.mk 4#64 3#64) 7#64) = true by decide +kernel)))) ?_
  simp only [sA, sB]
  refine tv 34 (.bool true) rfl rfl (by intro x hx; go_simp; (first | done | exact rfl)) ?_
  simp only [sA, sB]
  refine tm 35 53 rfl rfl rfl rfl ?_
  simp only [sA, sB]
  refine tv 36 (.agg #[.int .u64 4, .int .u64 3]) rfl rfl (by intro x hx; obtain ⟨f0, f1⟩ := hx.two 0 0 rfl rfl; go_simp; (first | done | exact rfl)) ?_
  simp only [sA, sB]
  refine tc 37 13 #[vU (P.mk 4#64 3#64), .int .u64 (tn (8#64))] (.bool false) rfl rfl (by intro x hx; exact calls_is (tnIn_any (P.mk 4#64 3#64) 8#64 _) (congrArg Value.bool ((show tnIn (P.mk 4#64 3#64) 8#64 = false by decide +kernel)))) ?_
  simp only [sA, sB]
  refine tv 38 (.bool true) rfl rfl (by intro x hx; go_simp; (first | done | exact rfl)) ?_
  simp only [sA, sB]
  refine tv 39 (.bool true) rfl rfl (by intro x hx; go_simp; (first | done | exact rfl)) ?_
  simp only [sA, sB]
  refine ta 40 58 rfl rfl rfl rfl ?_
  simp only [sB]
  clear HS
  refine td fun W4 HS => ?_
  go_wp2
  exact bodyPost_ret (v := .bool true) (by simp [results, Tryd.results12, go_sem]) rfl ⟨rfl, HS.out.below⟩
set_option maxRecDepth 100000 in
set_option maxHeartbeats 8000000 in
theorem tnumSays (x0 : P) (x1 : P) (x2 : BitVec 64) (x3 : BitVec 64)   (w : World) (hT : Tn.Tab w) :
    Calls Tryd.prog 5 #[vU x0, vU x1, .int .u64 (tn (x2)), .int .i64 (ti (x3))] w fun e w' => e = .returned (.bool true) ∧ Below w.heap.size w w' := by
  have HT := hid hT
  clear hT
  simp only [vU]
  go_enter Tryd.func5, Tryd.ntmps5
  have HS : Hid (St w [⟨w.heap.size, [some (.int .u64 (tn (x0.lo))), some (.int .u64 (tn (x0.hi)))], 24⟩, ⟨w.heap.size + 1, [some (.int .u64 (tn (x1.lo))), some (.int .u64 (tn (x1.hi)))], 24⟩] _) := hid (((st_nil w).alloc (k := w.heap.size) rfl [.int .u64 (tn (x0.lo)), .int .u64 (tn (x0.hi))] 24).alloc (k := w.heap.size + 1) (by simp) [.int .u64 (tn (x1.lo)), .int .u64 (tn (x1.hi))] 24)
  go_upto_region 1 with fail
  refine upb 26 (HS.out.drew) rfl ?_
  refine tv 0 (vU x0) rfl rfl (by intro x hx; obtain ⟨f0, f1⟩ := hx.two 0 0 rfl rfl; go_simp; (first | done | exact rfl)) ?_
  simp only [sA, sB, vU]
  refine tv 1 (vU x1) rfl rfl (by intro x hx; obtain ⟨f0, f1⟩ := hx.two 1 0 rfl rfl; go_simp; (first | done | exact rfl)) ?_
  simp only [sA, sB, vU]
  refine tc 2 15 #[vU x0, vU x1] (vU (tnAnd x0 x1)) rfl rfl (by intro x hx; exact tnAnd_any x0 x1 _) ?_
  simp only [sA, sB, vU]
  refine tv 3 (vU x0) rfl rfl (by intro x hx; obtain ⟨f0, f1⟩ := hx.two 0 0 rfl rfl; go_simp; (first | done | exact rfl)) ?_
  simp only [sA, sB, vU]
  refine tv 4 (vU x1) rfl rfl (by intro x hx; obtain ⟨f0, f1⟩ := hx.two 1 0 rfl rfl; go_simp; (first | done | exact rfl)) ?_
  simp only [sA, sB, vU]
  refine tc 5 18 #[vU x0, vU x1] (vU (tnAnd x0 x1)) rfl rfl (by intro x hx; exact calls_is (ref_And_any x0 x1 _) (congrArg (fun rr : P => (vU rr : Value)) (And_eq x0 x1))) ?_
  simp only [sA, sB, vU]
  refine tv 6 (.bool true) rfl rfl (by intro x hx; go_simp; (first | done | exact rfl)) ?_
  simp only [sA, sB]
  refine tm 7 23 rfl rfl rfl rfl ?_
  simp only [sA, sB]
  refine tv 8 (vU x0) rfl rfl (by intro x hx; obtain ⟨f0, f1⟩ := hx.two 0 0 rfl rfl; go_simp; (first | done | exact rfl)) ?_
  simp only [sA, sB, vU]
  refine tv 9 (vU x1) rfl rfl (by intro x hx; obtain ⟨f0, f1⟩ := hx.two 1 0 rfl rfl; go_simp; (first | done | exact rfl)) ?_
  simp only [sA, sB, vU]
  refine tc 10 16 #[vU x0, vU x1] (vU (tnOr x0 x1)) rfl rfl (by intro x hx; exact tnOr_any x0 x1 _) ?_
  simp only [sA, sB, vU]
  refine tv 11 (vU x0) rfl rfl (by intro x hx; obtain ⟨f0, f1⟩ := hx.two 0 0 rfl rfl; go_simp; (first | done | exact rfl)) ?_
  simp only [sA, sB, vU]
  refine tv 12 (vU x1) rfl rfl (by intro x hx; obtain ⟨f0, f1⟩ := hx.two 1 0 rfl rfl; go_simp; (first | done | exact rfl)) ?_
  simp only [sA, sB, vU]
  refine tc 13 19 #[vU x0, vU x1] (vU (tnOr x0 x1)) rfl rfl (by intro x hx; exact calls_is (ref_Or_any x0 x1 _) (congrArg (fun rr : P => (vU rr : Value)) (Or_eq x0 x1))) ?_
  simp only [sA, sB, vU]
  refine tv 14 (.bool true) rfl rfl (by intro x hx; go_simp; (first | done | exact rfl)) ?_
  simp only [sA, sB]
  refine tv 15 (.bool true) rfl rfl (by intro x hx; go_simp; (first | done | exact rfl)) ?_
  simp only [sA, sB]
  refine tm 16 32 rfl rfl rfl rfl ?_
  simp only [sA, sB]
  refine tv 17 (vU x0) rfl rfl (by intro x hx; obtain ⟨f0, f1⟩ := hx.two 0 0 rfl rfl; go_simp; (first | done | exact rfl)) ?_
  simp only [sA, sB, vU]
  refine tv 18 (vU x1) rfl rfl (by intro x hx; obtain ⟨f0, f1⟩ := hx.two 1 0 rfl rfl; go_simp; (first | done | exact rfl)) ?_
  simp only [sA, sB, vU]
  refine tc 19 17 #[vU x0, vU x1] (vU (tnXor x0 x1)) rfl rfl (by intro x hx; exact tnXor_any x0 x1 _) ?_
  simp only [sA, sB, vU]
  refine tv 20 (vU x0) rfl rfl (by intro x hx; obtain ⟨f0, f1⟩ := hx.two 0 0 rfl rfl; go_simp; (first | done | exact rfl)) ?_
  simp only [sA, sB, vU]
  refine tv 21 (vU x1) rfl rfl (by intro x hx; obtain ⟨f0, f1⟩ := hx.two 1 0 rfl rfl; go_simp; (first | done | exact rfl)) ?_
  simp only [sA, sB, vU]
  refine tc 22 20 #[vU x0, vU x1] (vU (tnXor x0 x1)) rfl rfl (by intro x hx; exact calls_is (ref_Xor_any x0 x1 _) (congrArg (fun rr : P => (vU rr : Value)) (Xor_eq x0 x1))) ?_
  simp only [sA, sB, vU]
  refine tv 23 (.bool true) rfl rfl (by intro x hx; go_simp; (first | done | exact rfl)) ?_
  simp only [sA, sB]
  refine tv 24 (.bool true) rfl rfl (by intro x hx; go_simp; (first | done | exact rfl)) ?_
  simp only [sA, sB]
  refine ta 25 41 rfl rfl rfl rfl ?_
  simp only [sA, sB]
  clear HS
  refine td fun W1 HS => ?_
  go_upto_region 2 with fail
  refine upb 26 (HS.out.drew) rfl ?_
  refine tv 0 (vU x0) rfl rfl (by intro x hx; obtain ⟨f0, f1⟩ := hx.two 0 0 rfl rfl; go_simp; (first | done | exact rfl)) ?_
  simp only [sA, sB, vU]
  refine tv 1 (vU x1) rfl rfl (by intro x hx; obtain ⟨f0, f1⟩ := hx.two 1 0 rfl rfl; go_simp; (first | done | exact rfl)) ?_
  simp only [sA, sB, vU]
  refine tc 2 14 #[vU x0, vU x1] (vU (tnAdd x0 x1)) rfl rfl (by intro x hx; exact tnAdd_any x0 x1 _) ?_
  simp only [sA, sB, vU]
  refine tv 3 (vU x0) rfl rfl (by intro x hx; obtain ⟨f0, f1⟩ := hx.two 0 0 rfl rfl; go_simp; (first | done | exact rfl)) ?_
  simp only [sA, sB, vU]
  refine tv 4 (vU x1) rfl rfl (by intro x hx; obtain ⟨f0, f1⟩ := hx.two 1 0 rfl rfl; go_simp; (first | done | exact rfl)) ?_
  simp only [sA, sB, vU]
  refine tc 5 21 #[vU x0, vU x1] (vU (tnAdd x0 x1)) rfl rfl (by intro x hx; exact calls_is (ref_Add_any x0 x1 _) (congrArg (fun rr : P => (vU rr : Value)) (Add_eq x0 x1))) ?_
  simp only [sA, sB, vU]
  refine tv 6 (.bool true) rfl rfl (by intro x hx; go_simp; (first | done | exact rfl)) ?_
  simp only [sA, sB]
  refine tm 7 48 rfl rfl rfl rfl ?_
  simp only [sA, sB]
  refine tv 8 (vU x0) rfl rfl (by intro x hx; obtain ⟨f0, f1⟩ := hx.two 0 0 rfl rfl; go_simp; (first | done | exact rfl)) ?_
  simp only [sA, sB, vU]
  refine tv 9 (vU x1) rfl rfl (by intro x hx; obtain ⟨f0, f1⟩ := hx.two 1 0 rfl rfl; go_simp; (first | done | exact rfl)) ?_
  simp only [sA, sB, vU]
  refine tc 10 11 #[vU x0, vU x1] (vU (tnSub x0 x1)) rfl rfl (by intro x hx; exact tnSub_any x0 x1 _) ?_
  simp only [sA, sB, vU]
  refine tv 11 (vU x0) rfl rfl (by intro x hx; obtain ⟨f0, f1⟩ := hx.two 0 0 rfl rfl; go_simp; (first | done | exact rfl)) ?_
  simp only [sA, sB, vU]
  refine tv 12 (vU x1) rfl rfl (by intro x hx; obtain ⟨f0, f1⟩ := hx.two 1 0 rfl rfl; go_simp; (first | done | exact rfl)) ?_
  simp only [sA, sB, vU]
  refine tc 13 22 #[vU x0, vU x1] (vU (tnSub x0 x1)) rfl rfl (by intro x hx; exact calls_is (ref_Sub_any x0 x1 _) (congrArg (fun rr : P => (vU rr : Value)) (Sub_eq x0 x1))) ?_
  simp only [sA, sB, vU]
  refine tv 14 (.bool true) rfl rfl (by intro x hx; go_simp; (first | done | exact rfl)) ?_
  simp only [sA, sB]
  refine tv 15 (.bool true) rfl rfl (by intro x hx; go_simp; (first | done | exact rfl)) ?_
  simp only [sA, sB]
  refine tm 16 57 rfl rfl rfl rfl ?_
  simp only [sA, sB]
  refine tv 17 (vU x0) rfl rfl (by intro x hx; obtain ⟨f0, f1⟩ := hx.two 0 0 rfl rfl; go_simp; (first | done | exact rfl)) ?_
  simp only [sA, sB, vU]
  refine tv 18 (vU x1) rfl rfl (by intro x hx; obtain ⟨f0, f1⟩ := hx.two 1 0 rfl rfl; go_simp; (first | done | exact rfl)) ?_
  simp only [sA, sB, vU]
  refine tc 19 6 #[vU x0, vU x1] (vU (tnMul x0 x1)) rfl rfl (by intro x hx; exact tnMul_any x0 x1 _ (HT.out.up hx.below)) ?_
  simp only [sA, sB, vU]
  refine tv 20 (vU x0) rfl rfl (by intro x hx; obtain ⟨f0, f1⟩ := hx.two 0 0 rfl rfl; go_simp; (first | done | exact rfl)) ?_
  simp only [sA, sB, vU]
  refine tv 21 (vU x1) rfl rfl (by intro x hx; obtain ⟨f0, f1⟩ := hx.two 1 0 rfl rfl; go_simp; (first | done | exact rfl)) ?_
  simp only [sA, sB, vU]
  refine tc 22 23 #[vU x0, vU x1] (vU (tnMul x0 x1)) rfl rfl (by intro x hx; exact calls_is (ref_Mul_any x0 x1 _) (congrArg (fun rr : P => (vU rr : Value)) (Mul_eq x0 x1))) ?_
  simp only [sA, sB, vU]
  refine tv 23 (.bool true) rfl rfl (by intro x hx; go_simp; (first | done | exact rfl)) ?_
  simp only [sA, sB]
  refine tv 24 (.bool true) rfl rfl (by intro x hx; go_simp; (first | done | exact rfl)) ?_
  simp only [sA, sB]
  refine ta 25 66 rfl rfl rfl rfl ?_
  simp only [sA, sB]
  clear HS
  refine td fun W2 HS => ?_
  go_upto_region 3 with fail
  refine upb 33 (HS.out.drew) rfl ?_
  refine tv 0 (vU x0) rfl rfl (by intro x hx; obtain ⟨f0, f1⟩ := hx.two 0 0 rfl rfl; go_simp; (first | done | exact rfl)) ?_
  simp only [sA, sB, vU]
  refine tm 1 3 rfl rfl rfl rfl ?_
  simp only [sA, sB]
  refine tc 2 9 #[vU x0, .int .i64 (ti (x3))] (vU (tnLsh x0 x3)) rfl rfl (by intro x hx; exact tnLsh_any x0 x3 _) ?_
  simp only [sA, sB, vU]
  refine tv 3 (vU x0) rfl rfl (by intro x hx; obtain ⟨f0, f1⟩ := hx.two 0 0 rfl rfl; go_simp; (first | done | exact rfl)) ?_
  simp only [sA, sB, vU]
  refine tm 4 3 rfl rfl rfl rfl ?_
  simp only [sA, sB]
  refine tc 5 24 #[vU x0, .int .i64 (ti (x3)), .bool true, .bool false] (vU (tnLsh x0 x3)) rfl rfl (by intro x hx; exact calls_is (ref_Moved_true_false x0 x3 _) (congrArg (fun rr : P => (vU rr : Value)) (Lsh_eq x0 x3))) ?_
  simp only [sA, sB, vU]
  refine tv 6 (.bool true) rfl rfl (by intro x hx; go_simp; (first | done | exact rfl)) ?_
  simp only [sA, sB]
  refine tm 7 73 rfl rfl rfl rfl ?_
  simp only [sA, sB]
  refine tv 8 (vU x0) rfl rfl (by intro x hx; obtain ⟨f0, f1⟩ := hx.two 0 0 rfl rfl; go_simp; (first | done | exact rfl)) ?_
  simp only [sA, sB, vU]
  refine tv 9 (.int .i64 (ti (x3))) rfl rfl (by intro x hx; go_simp; (first | done | exact rfl)) ?_
  simp only [sA, sB]
  refine tc 10 25 #[vU x0, .int .i64 (ti (x3))] (vU (tnRsh x0 x3)) rfl rfl (by intro x hx; exact tnRsh_any x0 x3 _) ?_
  simp only [sA, sB, vU]
  refine tv 11 (vU x0) rfl rfl (by intro x hx; obtain ⟨f0, f1⟩ := hx.two 0 0 rfl rfl; go_simp; (first | done | exact rfl)) ?_
  simp only [sA, sB, vU]
  refine tv 12 (.int .i64 (ti (x3))) rfl rfl (by intro x hx; go_simp; (first | done | exact rfl)) ?_
  simp only [sA, sB]
  refine tc 13 24 #[vU x0, .int .i64 (ti (x3)), .bool false, .bool false] (vU (tnRsh x0 x3)) rfl rfl (by intro x hx; exact calls_is (ref_Moved_false_false x0 x3 _) (congrArg (fun rr : P => (vU rr : Value)) (Rsh_eq x0 x3))) ?_
  simp only [sA, sB, vU]
  refine tv 14 (.bool true) rfl rfl (by intro x hx; go_simp; (first | done | exact rfl)) ?_
  simp only [sA, sB]
  refine tv 15 (.bool true) rfl rfl (by intro x hx; go_simp; (first | done | exact rfl)) ?_
  simp only [sA, sB]
  refine tm 16 82 rfl rfl rfl rfl ?_
  simp only [sA, sB]
  refine tv 17 (vU x0) rfl rfl (by intro x hx; obtain ⟨f0, f1⟩ := hx.two 0 0 rfl rfl; go_simp; (first | done | exact rfl)) ?_
  simp only [sA, sB, vU]
  refine tv 18 (.int .i64 (ti (x3))) rfl rfl (by intro x hx; go_simp; (first | done | exact rfl)) ?_
  simp only [sA, sB]
  refine tc 19 10 #[vU x0, .int .i64 (ti (x3))] (vU (tnArsh x0 x3)) rfl rfl (by intro x hx; exact tnArsh_any x0 x3 _) ?_
  simp only [sA, sB, vU]
  refine tv 20 (vU x0) rfl rfl (by intro x hx; obtain ⟨f0, f1⟩ := hx.two 0 0 rfl rfl; go_simp; (first | done | exact rfl)) ?_
  simp only [sA, sB, vU]
  refine tv 21 (.int .i64 (ti (x3))) rfl rfl (by intro x hx; go_simp; (first | done | exact rfl)) ?_
  simp only [sA, sB]
  refine tc 22 24 #[vU x0, .int .i64 (ti (x3)), .bool false, .bool true] (vU (tnArsh x0 x3)) rfl rfl (by intro x hx; exact calls_is (ref_Moved_false_true x0 x3 _) (congrArg (fun rr : P => (vU rr : Value)) (Arsh_eq x0 x3))) ?_
  simp only [sA, sB, vU]
  refine tv 23 (.bool true) rfl rfl (by intro x hx; go_simp; (first | done | exact rfl)) ?_
  simp only [sA, sB]
  refine tv 24 (.bool true) rfl rfl (by intro x hx; go_simp; (first | done | exact rfl)) ?_
  simp only [sA, sB]
  refine tm 25 91 rfl rfl rfl rfl ?_
  simp only [sA, sB]
  refine tv 26 (vU x0) rfl rfl (by intro x hx; obtain ⟨f0, f1⟩ := hx.two 0 0 rfl rfl; go_simp; (first | done | exact rfl)) ?_
  simp only [sA, sB, vU]
  refine tc 27 26 #[vU x0] (vU (tnCut x0)) rfl rfl (by intro x hx; exact tnCut_any x0 _) ?_
  simp only [sA, sB, vU]
  refine tv 28 (vU x0) rfl rfl (by intro x hx; obtain ⟨f0, f1⟩ := hx.two 0 0 rfl rfl; go_simp; (first | done | exact rfl)) ?_
  simp only [sA, sB, vU]
  refine tc 29 27 #[vU x0] (vU (tnCut x0)) rfl rfl (by intro x hx; exact calls_is (ref_Cut_any x0 _) (congrArg (fun rr : P => (vU rr : Value)) (Cut_eq x0))) ?_
  simp only [sA, sB, vU]
  refine tv 30 (.bool true) rfl rfl (by intro x hx; go_simp; (first | done | exact rfl)) ?_
  simp only [sA, sB]
  refine tv 31 (.bool true) rfl rfl (by intro x hx; go_simp; (first | done | exact rfl)) ?_
  simp only [sA, sB]
  refine ta 32 98 rfl rfl rfl rfl ?_
  simp only [sA, sB]
  clear HS
  refine td fun W3 HS => ?_
  go_upto_region 4 with fail
  refine lnb HS.out rfl ?_
  refine lv 0 (vU x0) rfl rfl (by intro x hx; obtain ⟨f0, f1⟩ := hx.two 0 0 rfl rfl; go_simp; (first | done | exact rfl)) ?_
  simp only [sA, sB, vU]
  refine lv 1 (vU x1) rfl rfl (by intro x hx; obtain ⟨f0, f1⟩ := hx.two 1 0 rfl rfl; go_simp; (first | done | exact rfl)) ?_
  simp only [sA, sB, vU]
  refine lc 2 28 #[vU x0, vU x1] (.tuple #[vU ((tnMeet x0 x1).1), .bool ((tnMeet x0 x1).2)]) rfl rfl (by intro x hx; exact tnMeet_any x0 x1 _) ?_
  simp only [sA, sB, vU]
  refine lm 3 102 rfl rfl rfl rfl ?_
  simp only [sA, sB]
  refine lv 4 (vU ((tnMeet x0 x1).1)) rfl rfl (by intro x hx; go_simp; (first | done | exact rfl)) ?_
  simp only [sA, sB, vU]
  refine lv 5 (.bool ((tnMeet x0 x1).2)) rfl rfl (by intro x hx; go_simp; (first | done | exact rfl)) ?_
  simp only [sA, sB]
  refine lin_new (i := 6) rfl rfl (by rfl) [.int .u64 0, .int .u64 0] 24 (fun k => .pointer (some ⟨k, 0, none⟩)) [some (.int .u64 0), some (.int .u64 0)] (lessC_refl _) (by intro x hx; go_simp; (first | done | exact rfl)) (fun k1 => ?_)
  simp only [sA, sB, sC, sD]
  refine ls 7 2 0 (cU ((tnMeet x0 x1).1)) rfl rfl rfl (by intro x hx; obtain ⟨⟨_, z0, q0⟩, ⟨_, z1, q1⟩⟩ := hx.at2 2 0 rfl; go_simp; (first | done | rfl)) ?_
  simp only [Blk.putC, setM, cU, sA, sB]
  refine la 8 104 rfl rfl rfl rfl ?_
  simp only [sA, sB]
  clear HS
  refine ld fun W4 HS => ?_
  go_upto_region 5 with fail
  refine lnb HS.out rfl ?_
  refine lv 0 (vU x0) rfl rfl (by intro x hx; obtain ⟨f0, f1⟩ := hx.two 0 0 rfl rfl; go_simp; (first | done | exact rfl)) ?_
  simp only [sA, sB, vU]
  refine lv 1 (vU x1) rfl rfl (by intro x hx; obtain ⟨f0, f1⟩ := hx.two 1 0 rfl rfl; go_simp; (first | done | exact rfl)) ?_
  simp only [sA, sB, vU]
  refine lc 2 29 #[vU x0, vU x1] (.tuple #[vU ((tnMeet x0 x1).1), .bool ((tnMeet x0 x1).2)]) rfl rfl (by intro x hx; exact calls_is (ref_Meet_any x0 x1 _) (congrArg (fun rr : P × Bool => (.tuple #[vU rr.1, .bool (rr.2)] : Value)) (Meet_eq x0 x1))) ?_
  simp only [sA, sB, vU]
  refine lm 3 108 rfl rfl rfl rfl ?_
  simp only [sA, sB]
  refine lv 4 (vU ((tnMeet x0 x1).1)) rfl rfl (by intro x hx; go_simp; (first | done | exact rfl)) ?_
  simp only [sA, sB, vU]
  refine lv 5 (.bool ((tnMeet x0 x1).2)) rfl rfl (by intro x hx; go_simp; (first | done | exact rfl)) ?_
  simp only [sA, sB]
  refine lin_new (i := 6) rfl rfl (by rfl) [.int .u64 0, .int .u64 0] 24 (fun k => .pointer (some ⟨k, 0, none⟩)) [some (.int .u64 0), some (.int .u64 0)] (lessC_refl _) (by intro x hx; go_simp; (first | done | exact rfl)) (fun k2 => ?_)
  simp only [sA, sB, sC, sD]
  refine ls 7 3 0 (cU ((tnMeet x0 x1).1)) rfl rfl rfl (by intro x hx; obtain ⟨⟨_, z0, q0⟩, ⟨_, z1, q1⟩⟩ := hx.at2 3 0 rfl; go_simp; (first | done | rfl)) ?_
  simp only [Blk.putC, setM, cU, sA, sB]
  refine la 8 110 rfl rfl rfl rfl ?_
  simp only [sA, sB]
  clear HS
  refine ld fun W5 HS => ?_
  go_upto_region 6 with fail
  refine upb 36 (HS.out.drew) rfl ?_
  refine tv 0 (vU x0) rfl rfl (by intro x hx; obtain ⟨f0, f1⟩ := hx.two 0 0 rfl rfl; go_simp; (first | done | exact rfl)) ?_
  simp only [sA, sB, vU]
  refine tm 1 2 rfl rfl rfl rfl ?_
  simp only [sA, sB]
  refine tc 2 13 #[vU x0, .int .u64 (tn (x2))] (.bool (tnIn x0 x2)) rfl rfl (by intro x hx; exact tnIn_any x0 x2 _) ?_
  simp only [sA, sB]
  refine tv 3 (vU x0) rfl rfl (by intro x hx; obtain ⟨f0, f1⟩ := hx.two 0 0 rfl rfl; go_simp; (first | done | exact rfl)) ?_
  simp only [sA, sB, vU]
  refine tm 4 2 rfl rfl rfl rfl ?_
  simp only [sA, sB]
  refine tc 5 30 #[vU x0, .int .u64 (tn (x2))] (.bool (tnIn x0 x2)) rfl rfl (by intro x hx; exact calls_is (ref_In_any x0 x2 _) (congrArg (fun rr : Bool => (.bool (rr) : Value)) (In_eq x0 x2))) ?_
  simp only [sA, sB]
  refine tv 6 (.bool true) rfl rfl (by intro x hx; go_simp; (first | done | rfl | simp)) ?_
  simp only [sA, sB]
  refine tm 7 117 rfl rfl rfl rfl ?_
  simp only [sA, sB]
  refine tv 8 (vU x0) rfl rfl (by intro x hx; obtain ⟨f0, f1⟩ := hx.two 0 0 rfl rfl; go_simp; (first | done | exact rfl)) ?_
  simp only [sA, sB, vU]
  refine tv 9 (vU x1) rfl rfl (by intro x hx; obtain ⟨f0, f1⟩ := hx.two 1 0 rfl rfl; go_simp; (first | done | exact rfl)) ?_
  simp only [sA, sB, vU]
  refine tc 10 31 #[vU x0, vU x1] (.bool (tnWithin x0 x1)) rfl rfl (by intro x hx; exact tnWithin_any x0 x1 _) ?_
  simp only [sA, sB]
  refine tv 11 (vU x0) rfl rfl (by intro x hx; obtain ⟨f0, f1⟩ := hx.two 0 0 rfl rfl; go_simp; (first | done | exact rfl)) ?_
  simp only [sA, sB, vU]
  refine tv 12 (vU x1) rfl rfl (by intro x hx; obtain ⟨f0, f1⟩ := hx.two 1 0 rfl rfl; go_simp; (first | done | exact rfl)) ?_
  simp only [sA, sB, vU]
  refine tc 13 32 #[vU x0, vU x1] (.bool (tnWithin x0 x1)) rfl rfl (by intro x hx; exact calls_is (ref_Within_any x0 x1 _) (congrArg (fun rr : Bool => (.bool (rr) : Value)) (Within_eq x0 x1))) ?_
  simp only [sA, sB]
  refine tv 14 (.bool true) rfl rfl (by intro x hx; go_simp; (first | done | rfl | simp)) ?_
  simp only [sA, sB]
  refine tv 15 (.bool true) rfl rfl (by intro x hx; go_simp; (first | done | exact rfl)) ?_
  simp only [sA, sB]
  refine tm 16 126 rfl rfl rfl rfl ?_
  simp only [sA, sB]
  refine tv 17 (vU x0) rfl rfl (by intro x hx; obtain ⟨f0, f1⟩ := hx.two 0 0 rfl rfl; go_simp; (first | done | exact rfl)) ?_
  simp only [sA, sB, vU]
  refine tv 18 (vU x1) rfl rfl (by intro x hx; obtain ⟨f0, f1⟩ := hx.two 1 0 rfl rfl; go_simp; (first | done | exact rfl)) ?_
  simp only [sA, sB, vU]
  refine tc 19 33 #[vU x0, vU x1] (vU (tnJoin x0 x1)) rfl rfl (by intro x hx; exact tnJoin_any x0 x1 _) ?_
  simp only [sA, sB, vU]
  refine tv 20 (vU x0) rfl rfl (by intro x hx; obtain ⟨f0, f1⟩ := hx.two 0 0 rfl rfl; go_simp; (first | done | exact rfl)) ?_
  simp only [sA, sB, vU]
  refine tv 21 (vU x1) rfl rfl (by intro x hx; obtain ⟨f0, f1⟩ := hx.two 1 0 rfl rfl; go_simp; (first | done | exact rfl)) ?_
  simp only [sA, sB, vU]
  refine tc 22 34 #[vU x0, vU x1] (vU (tnJoin x0 x1)) rfl rfl (by intro x hx; exact calls_is (ref_Join_any x0 x1 _) (congrArg (fun rr : P => (vU rr : Value)) (Join_eq x0 x1))) ?_
  simp only [sA, sB, vU]
  refine tv 23 (.bool true) rfl rfl (by intro x hx; go_simp; (first | done | exact rfl)) ?_
  simp only [sA, sB]
  refine tv 24 (.bool true) rfl rfl (by intro x hx; go_simp; (first | done | exact rfl)) ?_
  simp only [sA, sB]
  refine tm 25 135 rfl rfl rfl rfl ?_
  simp only [sA, sB]
  refine tv 26 (vU ((tnMeet x0 x1).1)) rfl rfl (by intro x hx; obtain ⟨f0, f1⟩ := hx.two 2 0 rfl rfl; go_simp; (first | done | exact rfl)) ?_
  simp only [sA, sB, vU]
  refine tv 27 (vU ((tnMeet x0 x1).1)) rfl rfl (by intro x hx; obtain ⟨f0, f1⟩ := hx.two 3 0 rfl rfl; go_simp; (first | done | exact rfl)) ?_
  simp only [sA, sB, vU]
  refine tv 28 (.bool true) rfl rfl (by intro x hx; go_simp; (first | done | exact rfl)) ?_
  simp only [sA, sB]
  refine tv 29 (.bool true) rfl rfl (by intro x hx; go_simp; (first | done | exact rfl)) ?_
  simp only [sA, sB]
  refine tm 30 140 rfl rfl rfl rfl ?_
  simp only [sA, sB]
  refine tv 31 (.bool ((tnMeet x0 x1).2)) rfl rfl (by intro x hx; go_simp; (first | done | exact rfl)) ?_
  simp only [sA, sB]
  refine tv 32 (.bool ((tnMeet x0 x1).2)) rfl rfl (by intro x hx; go_simp; (first | done | exact rfl)) ?_
  simp only [sA, sB]
  refine tv 33 (.bool true) rfl rfl (by intro x hx; go_simp; (first | done | rfl | simp)) ?_
  simp only [sA, sB]
  refine tv 34 (.bool true) rfl rfl (by intro x hx; go_simp; (first | done | exact rfl)) ?_
  simp only [sA, sB]
  refine ta 35 145 rfl rfl rfl rfl ?_
  simp only [sA, sB]
  clear HS
  refine td fun W6 HS => ?_
  go_upto_region 7 with fail
  refine lnb HS.out rfl ?_
  refine lm 0 9 rfl rfl rfl rfl ?_
  simp only [sA, sB]
  refine lm 1 146 rfl rfl rfl rfl ?_
  simp only [sA, sB]
  refine lv 2 (.bool true) rfl rfl (by intro x hx; go_simp; (first | done | exact rfl)) ?_
  simp only [sA, sB]
  refine lv 3 (.bool true) rfl rfl (by intro x hx; go_simp; (first | done | exact rfl)) ?_
  simp only [sA, sB]
  refine lm 4 149 rfl rfl rfl rfl ?_
  simp only [sA, sB]
  refine lv 5 (.bool true) rfl rfl (by intro x hx; go_simp; (first | done | exact rfl)) ?_
  simp only [sA, sB]
  refine lv 6 (.bool true) rfl rfl (by intro x hx; go_simp; (first | done | exact rfl)) ?_
  simp only [sA, sB]
  refine lm 7 152 rfl rfl rfl rfl ?_
  simp only [sA, sB]
  refine lv 8 (.bool true) rfl rfl (by intro x hx; go_simp; (first | done | exact rfl)) ?_
  simp only [sA, sB]
  refine lv 9 (.bool true) rfl rfl (by intro x hx; go_simp; (first | done | exact rfl)) ?_
  simp only [sA, sB]
  refine lm 10 155 rfl rfl rfl rfl ?_
  simp only [sA, sB]
  refine lc 11 12 #[] (.bool true) rfl rfl (by intro x hx; exact law_works_any _) ?_
  simp only [sA, sB]
  refine lv 12 (.bool true) rfl rfl (by intro x hx; go_simp; (first | done | exact rfl)) ?_
  simp only [sA, sB]
  refine la 13 158 rfl rfl rfl rfl ?_
  simp only [sA, sB]
  clear HS
  refine ld fun W7 HS => ?_
  go_wp2
  exact bodyPost_ret (v := .bool true) (by simp [results, Tryd.results5, go_sem]) rfl ⟨rfl, HS.out.below⟩
end Go.Proofs.YtpbhfpogbndljaaDoor.Rt
