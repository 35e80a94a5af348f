/-
  The contracts of scalar's small calls.
-/
import Derived.Deep.DeepCutAuto
import Derived.Test.YtmcapfbkedfdkaaGreatDoorScT
import Derived.Test.YtmcapfbkedfdkaaGreatDoorSpE
namespace Go.Proofs.YtmcapfbkedfdkaaGreatDoor.Sp
set_option maxRecDepth 100000
set_option maxHeartbeats 1000000
open Go.RowKit Go.Proofs.YtmcapfbkedfdkaaGreatDoor.Num Go.Proofs.YtmcapfbkedfdkaaGreatDoor.Up
theorem tnum_All_any    (w : World) :
  Calls Tryz.prog 27 #[] w fun e w' => e = .returned (vU (P.mk 0#64 18446744073709551615#64)) ∧ Below w.heap.size w w' := by
 simp only [vU]
 go_enter Tryz.func27, Tryz.ntmps27
 have HS : Hid (St w [⟨w.heap.size, [some (.int .u64 0), some (.int .u64 0)], 25⟩] _) := hid ((st_nil w).alloc (k := w.heap.size) rfl [.int .u64 0, .int .u64 0] 25)
 go_upto_region 1 with fail
 refine lnb HS.out rfl ?_
 refine lv 0 (.agg #[.int .u64 0, .int .u64 18446744073709551615]) rfl rfl (by intro x hx; go_simp; all_goals exact rfl) ?_
 simp only [sA, sB]
 refine ls 1 0 0 [.int .u64 0, .int .u64 18446744073709551615] rfl rfl rfl (by intro x hx; obtain ⟨⟨_, z0, q0⟩, ⟨_, z1, q1⟩⟩ := hx.at2 0 0 rfl; go_simp; all_goals rfl) ?_
 simp only [Blk.putC, setM, sA, sB]
 clear HS
 refine ld fun W1 HS => ?_
 go_wp2
 obtain ⟨r0, r1⟩ := HS.out.two 0 0 rfl rfl
 exact bodyPost_ret (v := .agg #[.int .u64 0, .int .u64 18446744073709551615]) (by simp [results, Tryz.results27, go_sem, r0, r1]) rfl ⟨rfl, HS.out.below⟩
theorem scalar_Of_any (x0 : BitVec 64)   (w : World) :
  Calls Tryz.prog 7 #[.int .u64 (tn (x0))] w fun e w' => e = .returned (vS (Sc.mk (P.mk x0 0#64) (P.mk x0 x0) (P.mk x0 x0))) ∧ Below w.heap.size w w' := by
 simp only [vS]
 go_enter Tryz.func7, Tryz.ntmps7
 have HS : Hid (St w [⟨w.heap.size, [some (.int .u64 0), some (.int .u64 0), some (.int .u64 0), some (.int .u64 0), some (.int .i64 0), some (.int .i64 0)], 31⟩] _) := hid ((st_nil w).alloc (k := w.heap.size) rfl [.int .u64 0, .int .u64 0, .int .u64 0, .int .u64 0, .int .i64 0, .int .i64 0] 31)
 go_upto_region 1 with fail
 refine lnb HS.out rfl ?_
 refine lm 0 0 rfl rfl rfl rfl ?_
 simp only [sA, sB]
 refine lc 1 19 #[.int .u64 (tn (x0))] (vU (P.mk x0 0#64)) rfl rfl (by intro x hx; exact tnOf_any x0 _) ?_
 simp only [sA, sB, vU]
 refine lm 2 0 rfl rfl rfl rfl ?_
 simp only [sA, sB]
 refine lc 3 20 #[.int .u64 (tn (x0))] (vU (P.mk x0 x0)) rfl rfl (by intro x hx; exact span_Of_any x0 _) ?_
 simp only [sA, sB, vU]
 refine lm 4 0 rfl rfl rfl rfl ?_
 simp only [sA, sB]
 refine lv 5 (.int .i64 (ti (x0))) rfl rfl (by intro x hx; go_simp; (first | done | exact toI64 x0 | exact congrArg _ (toI64 x0) | (rw [toI64 x0]; done) | (rw [toI64 x0]; rfl))) ?_
 simp only [sA, sB]
 refine lc 6 21 #[.int .i64 (ti (x0))] (vI (P.mk x0 x0)) rfl rfl (by intro x hx; exact span_Sof_any x0 _) ?_
 simp only [sA, sB, vI]
 refine lv 7 (vS (Sc.mk (P.mk x0 0#64) (P.mk x0 x0) (P.mk x0 x0))) rfl rfl (by intro x hx; go_simp; all_goals exact rfl) ?_
 simp only [sA, sB, vS]
 refine ls 8 0 0 (cS (Sc.mk (P.mk x0 0#64) (P.mk x0 x0) (P.mk x0 x0))) rfl rfl rfl (by intro x hx; obtain ⟨⟨_, z0, q0⟩, ⟨_, z1, q1⟩, ⟨_, z2, q2⟩, ⟨_, z3, q3⟩, ⟨_, z4, q4⟩, ⟨_, z5, q5⟩⟩ := hx.at6 0 0 rfl; go_simp; all_goals rfl) ?_
 simp only [Blk.putC, setM, cS, sA, sB]
 clear HS
 refine ld fun W1 HS => ?_
 go_wp2
 obtain ⟨r0, r1, r2, r3, r4, r5⟩ := HS.out.six 0 0 rfl rfl
 exact bodyPost_ret (v := vS (Sc.mk (P.mk x0 0#64) (P.mk x0 x0) (P.mk x0 x0))) (by simp [results, Tryz.results7, go_sem, r0, r1, r2, r3, r4, r5, vS]) rfl ⟨rfl, HS.out.below⟩
def scalar_All   : Sc :=
 Sc.mk (P.mk 0#64 18446744073709551615#64) (P.mk 0#64 18446744073709551615#64) (P.mk 9223372036854775808#64 9223372036854775807#64)
theorem scalar_All_any    (w : World) :
  Calls Tryz.prog 9 #[] w fun e w' => e = .returned (vS scalar_All) ∧ Below w.heap.size w w' := by
 simp only [vS]
 go_enter Tryz.func9, Tryz.ntmps9
 have HS : Hid (St w [⟨w.heap.size, [some (.int .u64 0), some (.int .u64 0), some (.int .u64 0), some (.int .u64 0), some (.int .i64 0), some (.int .i64 0)], 31⟩] _) := hid ((st_nil w).alloc (k := w.heap.size) rfl [.int .u64 0, .int .u64 0, .int .u64 0, .int .u64 0, .int .i64 0, .int .i64 0] 31)
 go_upto_region 1 with fail
 refine lnb HS.out rfl ?_
 refine lc 0 27 #[] (vU (P.mk 0#64 18446744073709551615#64)) rfl rfl (by intro x hx; exact tnum_All_any _) ?_
 simp only [sA, sB, vU]
 refine lc 1 28 #[] (vU (P.mk 0#64 18446744073709551615#64)) rfl rfl (by intro x hx; exact span_All_any _) ?_
 simp only [sA, sB, vU]
 refine lc 2 29 #[] (vI (P.mk 9223372036854775808#64 9223372036854775807#64)) rfl rfl (by intro x hx; exact span_Sall_any _) ?_
 simp only [sA, sB, vI]
 refine lv 3 (vS (Sc.mk (P.mk 0#64 18446744073709551615#64) (P.mk 0#64 18446744073709551615#64) (P.mk 9223372036854775808#64 9223372036854775807#64))) rfl rfl (by intro x hx; go_simp; all_goals exact rfl) ?_
 simp only [sA, sB, vS]
 refine ls 4 0 0 (cS (Sc.mk (P.mk 0#64 18446744073709551615#64) (P.mk 0#64 18446744073709551615#64) (P.mk 9223372036854775808#64 9223372036854775807#64))) rfl rfl rfl (by intro x hx; obtain ⟨⟨_, z0, q0⟩, ⟨_, z1, q1⟩, ⟨_, z2, q2⟩, ⟨_, z3, q3⟩, ⟨_, z4, q4⟩, ⟨_, z5, q5⟩⟩ := hx.at6 0 0 rfl; go_simp; all_goals rfl) ?_
 simp only [Blk.putC, setM, cS, sA, sB]
 clear HS
 refine ld fun W1 HS => ?_
 go_wp2
 obtain ⟨r0, r1, r2, r3, r4, r5⟩ := HS.out.six 0 0 rfl rfl
 have HF : scalar_All = Sc.mk (P.mk 0#64 18446744073709551615#64) (P.mk 0#64 18446744073709551615#64) (P.mk 9223372036854775808#64 9223372036854775807#64) := by
  unfold scalar_All
  rfl
 exact bodyPost_ret (v := vS (Sc.mk (P.mk 0#64 18446744073709551615#64) (P.mk 0#64 18446744073709551615#64) (P.mk 9223372036854775808#64 9223372036854775807#64))) (by simp [results, Tryz.results9, go_sem, r0, r1, r2, r3, r4, r5, vS]) rfl ⟨(by first | (rw [HF]; done) | (rw [HF]; rfl)), HS.out.below⟩
def scalar_In (x0 : Sc) (x1 : BitVec 64)  : Bool :=
 bif tnIn x0.t x1 then (bif span_within_uint64 (P.mk x1 x1) x0.u then (span_within_int64 (P.mk x1 x1) x0.s) else (false)) else (false)
theorem scalar_In_any (x0 : Sc) (x1 : BitVec 64)   (w : World) :
   Calls Tryz.prog 12 #[vS x0, .int .u64 (tn (x1))] w fun e w' => e = .returned (.bool (scalar_In x0 x1)) ∧ Below w.heap.size w w' := by
 simp only [vS]
 go_enter Tryz.func12, Tryz.ntmps12
 have HS : Hid (St w [⟨w.heap.size, [some (.int .u64 (tn (x0.t.lo))), some (.int .u64 (tn (x0.t.hi))), some (.int .u64 (tn (x0.u.lo))), some (.int .u64 (tn (x0.u.hi))), some (.int .i64 (ti (x0.s.lo))), some (.int .i64 (ti (x0.s.hi)))], 31⟩] _) := hid ((st_nil w).alloc (k := w.heap.size) rfl [.int .u64 (tn (x0.t.lo)), .int .u64 (tn (x0.t.hi)), .int .u64 (tn (x0.u.lo)), .int .u64 (tn (x0.u.hi)), .int .i64 (ti (x0.s.lo)), .int .i64 (ti (x0.s.hi))] 31)
 go_upto_region 1 with fail
 refine lnb HS.out rfl ?_
 refine lv 0 (.pointer (some ⟨w.heap.size, 0, none⟩)) rfl rfl (by intro x hx; go_simp; all_goals exact rfl) ?_
 simp only [sA, sB]
 refine lv 1 (vU x0.t) rfl rfl (by intro x hx; obtain ⟨f0, f1⟩ := hx.two 0 0 rfl rfl; go_simp; all_goals exact rfl) ?_
 simp only [sA, sB, vU]
 refine lm 2 1 rfl rfl rfl rfl ?_
 simp only [sA, sB]
 refine lc 3 32 #[vU x0.t, .int .u64 (tn (x1))] (.bool (tnIn x0.t x1)) rfl rfl (by intro x hx; exact tnIn_any x0.t x1 _) ?_
 simp only [sA, sB]
 refine lm 4 8 rfl rfl rfl rfl ?_
 simp only [sA, sB]
 cases h1 : (tnIn x0.t x1)
 ·replace h1 := hid h1
  refine lin_no (i := 5) rfl rfl (by kernel_rfl) ?_
  simp only [sA, sB]
  refine lin_no (i := 6) rfl rfl (by kernel_rfl) ?_
  simp only [sA, sB]
  refine lin_no (i := 7) rfl rfl (by kernel_rfl) ?_
  simp only [sA, sB]
  refine lin_no (i := 8) rfl rfl (by kernel_rfl) ?_
  simp only [sA, sB]
  refine lv 9 (.bool false) rfl rfl (by intro x hx; go_simp; all_goals exact rfl) ?_
  simp only [sA, sB]
  refine lm 10 14 rfl rfl rfl rfl ?_
  simp only [sA, sB]
  refine lin_no (i := 11) rfl rfl (by kernel_rfl) ?_
  simp only [sA, sB]
  refine lin_no (i := 12) rfl rfl (by kernel_rfl) ?_
  simp only [sA, sB]
  refine lin_no (i := 13) rfl rfl (by kernel_rfl) ?_
  simp only [sA, sB]
  refine lin_no (i := 14) rfl rfl (by kernel_rfl) ?_
  simp only [sA, sB]
  refine lin_no (i := 15) rfl rfl (by kernel_rfl) ?_
  simp only [sA, sB]
  refine lv 16 (.bool false) rfl rfl (by intro x hx; go_simp; all_goals exact rfl) ?_
  simp only [sA, sB]
  refine la 17 21 rfl rfl rfl rfl ?_
  simp only [sA, sB]
  clear HS
  refine ld fun W1 HS => ?_
  go_wp2
  have HF : scalar_In x0 x1 = false := by
    unfold scalar_In
    rw [cond_f h1.out]
  exact bodyPost_ret (v := .bool false) (by simp [results, Tryz.results12, go_sem]) rfl ⟨(by first | (rw [HF]; done) | (rw [HF]; rfl)), HS.out.below⟩
 ·replace h1 := hid h1
  refine lv 5 (.pointer (some ⟨w.heap.size, 2, none⟩)) rfl rfl (by intro x hx; go_simp; all_goals exact rfl) ?_
  simp only [sA, sB]
  refine lv 6 (vU x0.u) rfl rfl (by intro x hx; obtain ⟨f0, f1⟩ := hx.two 0 2 rfl rfl; go_simp; all_goals exact rfl) ?_
  simp only [sA, sB, vU]
  refine lv 7 (.int .u64 (tn (x1))) rfl rfl (by intro x hx; go_simp; all_goals exact rfl) ?_
  simp only [sA, sB]
  refine lc 8 33 #[vU x0.u, .int .u64 (tn (x1))] (.bool (span_within_uint64 (P.mk x1 x1) x0.u)) rfl rfl (by intro x hx; exact span_In_any x0.u x1 _) ?_
  simp only [sA, sB]
  refine lv 9 (.bool (span_within_uint64 (P.mk x1 x1) x0.u)) rfl rfl (by intro x hx; go_simp; all_goals exact rfl) ?_
  simp only [sA, sB]
  refine lm 10 14 rfl rfl rfl rfl ?_
  simp only [sA, sB]
  cases h2 : (span_within_uint64 (P.mk x1 x1) x0.u)
  ·replace h2 := hid h2
   refine lin_no (i := 11) rfl rfl (by kernel_rfl) ?_
   simp only [sA, sB]
   refine lin_no (i := 12) rfl rfl (by kernel_rfl) ?_
   simp only [sA, sB]
   refine lin_no (i := 13) rfl rfl (by kernel_rfl) ?_
   simp only [sA, sB]
   refine lin_no (i := 14) rfl rfl (by kernel_rfl) ?_
   simp only [sA, sB]
   refine lin_no (i := 15) rfl rfl (by kernel_rfl) ?_
   simp only [sA, sB]
   refine lv 16 (.bool false) rfl rfl (by intro x hx; go_simp; all_goals exact rfl) ?_
   simp only [sA, sB]
   refine la 17 21 rfl rfl rfl rfl ?_
   simp only [sA, sB]
   clear HS
   refine ld fun W1 HS => ?_
   go_wp2
   have HF : scalar_In x0 x1 = false := by
     unfold scalar_In
     rw [cond_t h1.out, cond_f h2.out]
   exact bodyPost_ret (v := .bool false) (by simp [results, Tryz.results12, go_sem]) rfl ⟨(by first | (rw [HF]; done) | (rw [HF]; rfl)), HS.out.below⟩
  ·replace h2 := hid h2
   refine lv 11 (.pointer (some ⟨w.heap.size, 4, none⟩)) rfl rfl (by intro x hx; go_simp; all_goals exact rfl) ?_
   simp only [sA, sB]
   refine lv 12 (vI x0.s) rfl rfl (by intro x hx; obtain ⟨f0, f1⟩ := hx.two 0 4 rfl rfl; go_simp; all_goals exact rfl) ?_
   simp only [sA, sB, vI]
   refine lv 13 (.int .u64 (tn (x1))) rfl rfl (by intro x hx; go_simp; all_goals exact rfl) ?_
   simp only [sA, sB]
   refine lv 14 (.int .i64 (ti (x1))) rfl rfl (by intro x hx; go_simp; (first | done | exact toI64 x1 | exact congrArg _ (toI64 x1) | (rw [toI64 x1]; done) | (rw [toI64 x1]; rfl))) ?_
   simp only [sA, sB]
   refine lc 15 34 #[vI x0.s, .int .i64 (ti (x1))] (.bool (span_within_int64 (P.mk x1 x1) x0.s)) rfl rfl (by intro x hx; exact span_Sin_any x0.s x1 _) ?_
   simp only [sA, sB]
   refine lv 16 (.bool (span_within_int64 (P.mk x1 x1) x0.s)) rfl rfl (by intro x hx; go_simp; all_goals exact rfl) ?_
   simp only [sA, sB]
   refine la 17 21 rfl rfl rfl rfl ?_
   simp only [sA, sB]
   clear HS
   refine ld fun W1 HS => ?_
   go_wp2
   have HF : scalar_In x0 x1 = span_within_int64 (P.mk x1 x1) x0.s := by
     unfold scalar_In
     rw [cond_t h1.out, cond_t h2.out]
   exact bodyPost_ret (v := .bool (span_within_int64 (P.mk x1 x1) x0.s)) (by simp [results, Tryz.results12, go_sem]) rfl ⟨(by first | (rw [HF]; done) | (rw [HF]; rfl)), HS.out.below⟩
def scalar_Within (x0 : Sc) (x1 : Sc)  : Bool :=
 bif tnWithin x0.t x1.t then (bif span_within_uint64 x0.u x1.u then (span_within_int64 x0.s x1.s) else (false)) else (false)
theorem scalar_unordered_any (x0 : P) (x1 : P)   (w : World) :
  Calls Tryz.prog 64 #[vU x0, vU x1] w fun e w' => e = .returned (vS (Sc.mk x0 x1 (P.mk 9223372036854775808#64 9223372036854775807#64))) ∧ Below w.heap.size w w' := by
 simp only [vS, vU]
 go_enter Tryz.func64, Tryz.ntmps64
 have HS : Hid (St w [⟨w.heap.size, [some (.int .u64 (tn (x0.lo))), some (.int .u64 (tn (x0.hi)))], 25⟩, ⟨w.heap.size + 1, [some (.int .u64 (tn (x1.lo))), some (.int .u64 (tn (x1.hi)))], 27⟩, ⟨w.heap.size + 2, [some (.int .u64 0), some (.int .u64 0), some (.int .u64 0), some (.int .u64 0), some (.int .i64 0), some (.int .i64 0)], 31⟩] _) := hid ((((st_nil w).alloc (k := w.heap.size) rfl [.int .u64 (tn (x0.lo)), .int .u64 (tn (x0.hi))] 25).alloc (k := w.heap.size + 1) (by simp) [.int .u64 (tn (x1.lo)), .int .u64 (tn (x1.hi))] 27).alloc (k := w.heap.size + 2) (by simp) [.int .u64 0, .int .u64 0, .int .u64 0, .int .u64 0, .int .i64 0, .int .i64 0] 31)
 go_upto_region 1 with fail
 refine upb 5 (HS.out.drew.forget 2 0 6 rfl) rfl ?_
 simp only [Blk.dropC, noneM, sA, sB]
 refine tv 0 (vU x0) rfl rfl (by intro x hx; obtain ⟨f0, f1⟩ := hx.two 0 0 rfl rfl; go_simp; all_goals exact rfl) ?_
 simp only [sA, sB, vU]
 refine tv 1 (vU x1) rfl rfl (by intro x hx; obtain ⟨f0, f1⟩ := hx.two 1 0 rfl rfl; go_simp; all_goals exact rfl) ?_
 simp only [sA, sB, vU]
 refine tc 2 29 #[] (vI (P.mk 9223372036854775808#64 9223372036854775807#64)) rfl rfl (by intro x hx; exact span_Sall_any _) ?_
 simp only [sA, sB, vI]
 refine tv 3 (vS (Sc.mk x0 x1 (P.mk 9223372036854775808#64 9223372036854775807#64))) rfl rfl (by intro x hx; go_simp; all_goals exact rfl) ?_
 simp only [sA, sB, vS]
 refine ts 4 2 0 (cS (Sc.mk x0 x1 (P.mk 9223372036854775808#64 9223372036854775807#64))) rfl rfl rfl (by intro x hx; obtain ⟨⟨_, z0, q0⟩, ⟨_, z1, q1⟩, ⟨_, z2, q2⟩, ⟨_, z3, q3⟩, ⟨_, z4, q4⟩, ⟨_, z5, q5⟩⟩ := hx.at6 2 0 rfl; go_simp; all_goals rfl) ?_
 simp only [Blk.putC, setM, cS, sA, sB]
 clear HS
 refine td fun W1 HS => ?_
 go_wp2
 obtain ⟨r0, r1, r2, r3, r4, r5⟩ := HS.out.six 2 0 rfl rfl
 exact bodyPost_ret (v := vS (Sc.mk x0 x1 (P.mk 9223372036854775808#64 9223372036854775807#64))) (by simp [results, Tryz.results64, go_sem, r0, r1, r2, r3, r4, r5, vS]) rfl ⟨rfl, HS.out.below⟩
theorem scalar_none_any    (w : World) :
  Calls Tryz.prog 15 #[] w fun e w' => e = .returned (.tuple #[vS scalar_All, vS scalar_All, .bool false]) ∧ Below w.heap.size w w' := by
 simp only [vS]
 go_enter Tryz.func15, Tryz.ntmps15
 have HS : Hid (St w [⟨w.heap.size, [some (.int .u64 0), some (.int .u64 0), some (.int .u64 0), some (.int .u64 0), some (.int .i64 0), some (.int .i64 0)], 31⟩, ⟨w.heap.size + 1, [some (.int .u64 0), some (.int .u64 0), some (.int .u64 0), some (.int .u64 0), some (.int .i64 0), some (.int .i64 0)], 31⟩] _) := hid (((st_nil w).alloc (k := w.heap.size) rfl [.int .u64 0, .int .u64 0, .int .u64 0, .int .u64 0, .int .i64 0, .int .i64 0] 31).alloc (k := w.heap.size + 1) (by simp) [.int .u64 0, .int .u64 0, .int .u64 0, .int .u64 0, .int .i64 0, .int .i64 0] 31)
 go_upto_region 1 with fail
 refine lnb HS.out rfl ?_
 refine lc 0 9 #[] (vS scalar_All) rfl rfl (by intro x hx; exact scalar_All_any _) ?_
 simp only [sA, sB, vS]
 refine lc 1 9 #[] (vS scalar_All) rfl rfl (by intro x hx; exact scalar_All_any _) ?_
 simp only [sA, sB, vS]
 refine ls 2 0 0 (cS scalar_All) rfl rfl rfl (by intro x hx; obtain ⟨⟨_, z0, q0⟩, ⟨_, z1, q1⟩, ⟨_, z2, q2⟩, ⟨_, z3, q3⟩, ⟨_, z4, q4⟩, ⟨_, z5, q5⟩⟩ := hx.at6 0 0 rfl; go_simp; all_goals rfl) ?_
 simp only [Blk.putC, setM, cS, sA, sB]
 refine ls 3 1 0 (cS scalar_All) rfl rfl rfl (by intro x hx; obtain ⟨⟨_, z0, q0⟩, ⟨_, z1, q1⟩, ⟨_, z2, q2⟩, ⟨_, z3, q3⟩, ⟨_, z4, q4⟩, ⟨_, z5, q5⟩⟩ := hx.at6 1 0 rfl; go_simp; all_goals rfl) ?_
 simp only [Blk.putC, setM, cS, sA, sB]
 refine lv 4 (.bool false) rfl rfl (by intro x hx; go_simp; all_goals exact rfl) ?_
 simp only [sA, sB]
 clear HS
 refine ld fun W1 HS => ?_
 go_wp2
 obtain ⟨r0, r1, r2, r3, r4, r5⟩ := HS.out.six 0 0 rfl rfl
 obtain ⟨r6, r7, r8, r9, r10, r11⟩ := HS.out.six 1 0 rfl rfl
 exact bodyPost_ret (v := .tuple #[vS scalar_All, vS scalar_All, .bool false]) (by simp [results, Tryz.results15, go_sem, r0, r1, r2, r3, r4, r5, r6, r7, r8, r9, r10, r11, vS]) rfl ⟨rfl, HS.out.below⟩
end Go.Proofs.YtmcapfbkedfdkaaGreatDoor.Sp
