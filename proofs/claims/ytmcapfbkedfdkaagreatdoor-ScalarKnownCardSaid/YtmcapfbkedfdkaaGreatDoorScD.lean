/-
  The contracts of Low, and of what is called with lists.
-/
import Derived.Deep.DeepCutAuto
import Derived.Test.YtmcapfbkedfdkaaGreatDoorScC
namespace Go.Proofs.YtmcapfbkedfdkaaGreatDoor.Sp
set_option maxRecDepth 100000
set_option maxHeartbeats 1000000
open Go.RowKit Go.Proofs.YtmcapfbkedfdkaaGreatDoor.Num Go.Proofs.YtmcapfbkedfdkaaGreatDoor.Up
theorem scalar_settled_any (x0 : Sc)   (w : World) :
  Calls Tryz.prog 23 #[vS x0] w fun e w' => e = .returned (vS ((scalar_Norm x0).1)) ∧ Below w.heap.size w w' := by
 simp only [vS]
 go_enter Tryz.func23, Tryz.ntmps23
 have HS : Hid (St w [⟨w.heap.size, [some (.int .u64 (tn (x0.t.lo))), some (.int .u64 (tn (x0.t.hi))), some (.int .u64 (tn (x0.u.lo))), some (.int .u64 (tn (x0.u.hi))), some (.int .i64 (ti (x0.s.lo))), some (.int .i64 (ti (x0.s.hi)))], 31⟩, ⟨w.heap.size + 1, [some (.int .u64 0), some (.int .u64 0), some (.int .u64 0), some (.int .u64 0), some (.int .i64 0), some (.int .i64 0)], 31⟩] _) := hid (((st_nil w).alloc (k := w.heap.size) rfl [.int .u64 (tn (x0.t.lo)), .int .u64 (tn (x0.t.hi)), .int .u64 (tn (x0.u.lo)), .int .u64 (tn (x0.u.hi)), .int .i64 (ti (x0.s.lo)), .int .i64 (ti (x0.s.hi))] 31).alloc (k := w.heap.size + 1) (by simp) [.int .u64 0, .int .u64 0, .int .u64 0, .int .u64 0, .int .i64 0, .int .i64 0] 31)
 go_upto_region 1 with fail
 refine lnb HS.out rfl ?_
 refine lv 0 (vS x0) rfl rfl (by intro x hx; obtain ⟨f0, f1, f2, f3, f4, f5⟩ := hx.six 0 0 rfl rfl; go_simp; all_goals exact rfl) ?_
 simp only [sA, sB, vS]
 refine lc 1 18 #[vS x0] (.tuple #[vS ((scalar_Norm x0).1), .bool ((scalar_Norm x0).2)]) rfl rfl (by intro x hx; exact scalar_Norm_any x0 _) ?_
 simp only [sA, sB, vS]
 refine lm 2 5 rfl rfl rfl rfl ?_
 simp only [sA, sB]
 refine lv 3 (vS ((scalar_Norm x0).1)) rfl rfl (by intro x hx; go_simp; all_goals exact rfl) ?_
 simp only [sA, sB, vS]
 refine lv 4 (.bool ((scalar_Norm x0).2)) rfl rfl (by intro x hx; go_simp; all_goals exact rfl) ?_
 simp only [sA, sB]
 refine ls 5 0 0 (cS ((scalar_Norm x0).1)) rfl rfl rfl (by intro x hx; obtain ⟨⟨_, z0, q0⟩, ⟨_, z1, q1⟩, ⟨_, z2, q2⟩, ⟨_, z3, q3⟩, ⟨_, z4, q4⟩, ⟨_, z5, q5⟩⟩ := hx.at6 0 0 rfl; go_simp; all_goals rfl) ?_
 simp only [Blk.putC, setM, cS, sA, sB]
 clear HS
 refine ld fun W1 HS => ?_
 go_upto_region 2 with fail
 refine lnb HS.out rfl ?_
 refine lv 0 (vS ((scalar_Norm x0).1)) rfl rfl (by intro x hx; obtain ⟨f0, f1, f2, f3, f4, f5⟩ := hx.six 0 0 rfl rfl; go_simp; all_goals exact rfl) ?_
 simp only [sA, sB, vS]
 refine ls 1 1 0 (cS ((scalar_Norm x0).1)) rfl rfl rfl (by intro x hx; obtain ⟨⟨_, z0, q0⟩, ⟨_, z1, q1⟩, ⟨_, z2, q2⟩, ⟨_, z3, q3⟩, ⟨_, z4, q4⟩, ⟨_, z5, q5⟩⟩ := hx.at6 1 0 rfl; go_simp; all_goals rfl) ?_
 simp only [Blk.putC, setM, cS, sA, sB]
 clear HS
 refine ld fun W2 HS => ?_
 go_wp2
 obtain ⟨r0, r1, r2, r3, r4, r5⟩ := HS.out.six 1 0 rfl rfl
 exact bodyPost_ret (v := vS ((scalar_Norm x0).1)) (by simp [results, Tryz.results23, go_sem, r0, r1, r2, r3, r4, r5, vS]) rfl ⟨rfl, HS.out.below⟩
def scalar_Low (x0 : Sc)  : Sc :=
 (scalar_Norm (Sc.mk (tnCut x0.t) (span_Cut x0.u) (P.mk 9223372036854775808#64 9223372036854775807#64))).1
theorem scalar_Low_any (x0 : Sc)   (w : World) :
  Calls Tryz.prog 26 #[vS x0] w fun e w' => e = .returned (vS (scalar_Low x0)) ∧ Below w.heap.size w w' := by
 simp only [vS]
 go_enter Tryz.func26, Tryz.ntmps26
 have HS : Hid (St w [⟨w.heap.size, [some (.int .u64 (tn (x0.t.lo))), some (.int .u64 (tn (x0.t.hi))), some (.int .u64 (tn (x0.u.lo))), some (.int .u64 (tn (x0.u.hi))), some (.int .i64 (ti (x0.s.lo))), some (.int .i64 (ti (x0.s.hi)))], 31⟩, ⟨w.heap.size + 1, [some (.int .u64 0), some (.int .u64 0), some (.int .u64 0), some (.int .u64 0), some (.int .i64 0), some (.int .i64 0)], 31⟩] _) := hid (((st_nil w).alloc (k := w.heap.size) rfl [.int .u64 (tn (x0.t.lo)), .int .u64 (tn (x0.t.hi)), .int .u64 (tn (x0.u.lo)), .int .u64 (tn (x0.u.hi)), .int .i64 (ti (x0.s.lo)), .int .i64 (ti (x0.s.hi))] 31).alloc (k := w.heap.size + 1) (by simp) [.int .u64 0, .int .u64 0, .int .u64 0, .int .u64 0, .int .i64 0, .int .i64 0] 31)
 go_upto_region 1 with fail
 refine upb 9 (HS.out.drew.forget 1 0 6 rfl) rfl ?_
 simp only [Blk.dropC, noneM, sA, sB]
 refine tv 0 (.pointer (some ⟨w.heap.size, 0, none⟩)) rfl rfl (by intro x hx; go_simp; all_goals exact rfl) ?_
 simp only [sA, sB]
 refine tv 1 (vU x0.t) rfl rfl (by intro x hx; obtain ⟨f0, f1⟩ := hx.two 0 0 rfl rfl; go_simp; all_goals exact rfl) ?_
 simp only [sA, sB, vU]
 refine tc 2 76 #[vU x0.t] (vU (tnCut x0.t)) rfl rfl (by intro x hx; exact tnCut_any x0.t _) ?_
 simp only [sA, sB, vU]
 refine tv 3 (.pointer (some ⟨w.heap.size, 2, none⟩)) rfl rfl (by intro x hx; go_simp; all_goals exact rfl) ?_
 simp only [sA, sB]
 refine tv 4 (vU x0.u) rfl rfl (by intro x hx; obtain ⟨f0, f1⟩ := hx.two 0 2 rfl rfl; go_simp; all_goals exact rfl) ?_
 simp only [sA, sB, vU]
 refine tc 5 77 #[vU x0.u] (vU (span_Cut x0.u)) rfl rfl (by intro x hx; exact span_Cut_any x0.u _) ?_
 simp only [sA, sB, vU]
 refine tc 6 64 #[vU (tnCut x0.t), vU (span_Cut x0.u)] (vS (Sc.mk (tnCut x0.t) (span_Cut x0.u) (P.mk 9223372036854775808#64 9223372036854775807#64))) rfl rfl (by intro x hx; exact scalar_unordered_any (tnCut x0.t) (span_Cut x0.u) _) ?_
 simp only [sA, sB, vS]
 refine tc 7 23 #[vS (Sc.mk (tnCut x0.t) (span_Cut x0.u) (P.mk 9223372036854775808#64 9223372036854775807#64))] (vS ((scalar_Norm (Sc.mk (tnCut x0.t) (span_Cut x0.u) (P.mk 9223372036854775808#64 9223372036854775807#64))).1)) rfl rfl (by intro x hx; exact scalar_settled_any (Sc.mk (tnCut x0.t) (span_Cut x0.u) (P.mk 9223372036854775808#64 9223372036854775807#64)) _) ?_
 simp only [sA, sB, vS]
 refine ts 8 1 0 (cS ((scalar_Norm (Sc.mk (tnCut x0.t) (span_Cut x0.u) (P.mk 9223372036854775808#64 9223372036854775807#64))).1)) rfl rfl rfl (by intro x hx; obtain ⟨⟨_, z0, q0⟩, ⟨_, z1, q1⟩, ⟨_, z2, q2⟩, ⟨_, z3, q3⟩, ⟨_, z4, q4⟩, ⟨_, z5, q5⟩⟩ := hx.at6 1 0 rfl; go_simp; all_goals rfl) ?_
 simp only [Blk.putC, setM, cS, sA, sB]
 clear HS
 refine td fun W1 HS => ?_
 go_wp2
 obtain ⟨r0, r1, r2, r3, r4, r5⟩ := HS.out.six 1 0 rfl rfl
 have HF : scalar_Low x0 = (scalar_Norm (Sc.mk (tnCut x0.t) (span_Cut x0.u) (P.mk 9223372036854775808#64 9223372036854775807#64))).1 := by
  unfold scalar_Low
  rfl
 exact bodyPost_ret (v := vS ((scalar_Norm (Sc.mk (tnCut x0.t) (span_Cut x0.u) (P.mk 9223372036854775808#64 9223372036854775807#64))).1)) (by simp [results, Tryz.results26, go_sem, r0, r1, r2, r3, r4, r5, vS]) rfl ⟨(by first | (rw [HF]; done) | (rw [HF]; rfl)), HS.out.below⟩
def single1  (y0 : Sc)  : Bool :=
 bif (y0.t.hi != 0#64) then (false) else (true)
theorem single1_any  (K : Nat) (y0 : Sc)   (w : World) (far0 : Blk.ok ⟨K, [some (.int .u64 (tn (y0.t.lo))), some (.int .u64 (tn (y0.t.hi))), some (.int .u64 (tn (y0.u.lo))), some (.int .u64 (tn (y0.u.hi))), some (.int .i64 (ti (y0.s.lo))), some (.int .i64 (ti (y0.s.hi)))], 31⟩ w) :
   Calls Tryz.prog 14 #[.slice (some ⟨K, 0, none⟩) 1 1] w fun e w' => e = .returned (.bool (single1 y0)) ∧ Below w.heap.size w w' := by
 go_enter Tryz.func14, Tryz.ntmps14
 have HS : Hid (St w [] _) := hid (st_nil w)
 go_upto_region 1 with fail
 refine lnb HS.out rfl ?_
 refine lm 0 0 rfl rfl rfl rfl ?_
 simp only [sA, sB]
 refine lv 1 (.int .i64 1) rfl rfl (by intro x hx; go_simp; all_goals exact rfl) ?_
 simp only [sA, sB]
 refine lv 2 (.int .i64 0) rfl rfl (by intro x hx; go_simp; all_goals exact rfl) ?_
 simp only [sA, sB]
 clear HS
 refine ld fun W1 HS => ?_
 go_wp2
 refine wp_loop_rounds 70 ?_
 rw [rounds_succ]
 go_upto_region 2 with fail
 refine lnb HS.out rfl ?_
 refine lv 0 (.bool true) rfl rfl (by intro x hx; go_simp; all_goals exact rfl) ?_
 simp only [sA, sB]
 clear HS
 refine ld fun W2 HS => ?_
 go_upto_region 3 with fail
 refine lnb HS.out rfl ?_
 refine lv 0 (.pointer (some ⟨K, 0, none⟩)) rfl rfl (by intro x hx; go_simp; all_goals exact rfl) ?_
 simp only [sA, sB]
 refine lv 1 (vS y0) rfl rfl (by intro x hx; have f0 := far_load far0 hx 0 rfl; have f1 := far_load far0 hx 1 rfl; have f2 := far_load far0 hx 2 rfl; have f3 := far_load far0 hx 3 rfl; have f4 := far_load far0 hx 4 rfl; have f5 := far_load far0 hx 5 rfl; go_simp; all_goals exact rfl) ?_
 simp only [sA, sB, vS]
 refine lin_new (i := 2) rfl rfl (by rfl) [.int .u64 0, .int .u64 0, .int .u64 0, .int .u64 0, .int .i64 0, .int .i64 0] 31 (fun k => .pointer (some ⟨k, 0, none⟩)) [some (.int .u64 0), some (.int .u64 0), some (.int .u64 0), some (.int .u64 0), some (.int .i64 0), some (.int .i64 0)] (lessC_refl _) (by intro x hx; go_simp; all_goals exact rfl) (fun k1 => ?_)
 simp only [sA, sB, sD]
 refine ls 3 0 0 (cS y0) rfl rfl rfl (by intro x hx; obtain ⟨⟨_, z0, q0⟩, ⟨_, z1, q1⟩, ⟨_, z2, q2⟩, ⟨_, z3, q3⟩, ⟨_, z4, q4⟩, ⟨_, z5, q5⟩⟩ := hx.at6 0 0 rfl; go_simp; all_goals rfl) ?_
 simp only [Blk.putC, setM, cS, sA, sB]
 clear HS
 refine ld fun W3 HS => ?_
 go_upto_region 4 with fail
 refine lnb HS.out rfl ?_
 refine lv 0 (.pointer (some ⟨k1, 0, none⟩)) rfl rfl (by intro x hx; go_simp; all_goals exact rfl) ?_
 simp only [sA, sB]
 refine lv 1 (.pointer (some ⟨k1, 1, none⟩)) rfl rfl (by intro x hx; go_simp; all_goals exact rfl) ?_
 simp only [sA, sB]
 refine lv 2 (.int .u64 (tn (y0.t.hi))) rfl rfl (by intro x hx; have f0 := hx.load 0 1 rfl rfl; go_simp; all_goals exact rfl) ?_
 simp only [sA, sB]
 refine lv 3 (.bool ((y0.t.hi != 0#64))) rfl rfl (by intro x hx; go_simp; (first | done | exact neUT y0.t.hi 0#64 | exact congrArg _ (neUT y0.t.hi 0#64) | (rw [neUT y0.t.hi 0#64]; done) | (rw [neUT y0.t.hi 0#64]; rfl))) ?_
 simp only [sA, sB]
 clear HS
 refine ld fun W4 HS => ?_
 cases h1 : ((y0.t.hi != 0#64))
 ·replace h1 := hid h1
  go_upto_region 6 with fail
  refine lnb HS.out rfl ?_
  refine lv 0 (.int .i64 1) rfl rfl (by intro x hx; go_simp; all_goals exact rfl) ?_
  simp only [sA, sB]
  refine lm 1 15 rfl rfl rfl rfl ?_
  simp only [sA, sB]
  clear HS
  refine ld fun W5 HS => ?_
  go_wp2
  rw [rounds_succ]
  go_upto_region 2 with fail
  refine lnb HS.out rfl ?_
  refine lv 0 (.bool false) rfl rfl (by intro x hx; go_simp; all_goals exact rfl) ?_
  simp only [sA, sB]
  clear HS
  refine ld fun W6 HS => ?_
  go_upto_region 7 with fail
  refine lnb HS.out rfl ?_
  refine lv 0 (.bool true) rfl rfl (by intro x hx; go_simp; all_goals exact rfl) ?_
  simp only [sA, sB]
  clear HS
  refine ld fun W7 HS => ?_
  go_wp2
  have HF : single1 y0 = true := by
    unfold single1
    rw [cond_f h1.out]
  exact bodyPost_ret (v := .bool true) (by simp [results, Tryz.results14, go_sem]) rfl ⟨(by first | (rw [HF]; done) | (rw [HF]; rfl)), HS.out.below⟩
 ·replace h1 := hid h1
  go_upto_region 5 with fail
  refine lnb HS.out rfl ?_
  refine lv 0 (.bool false) rfl rfl (by intro x hx; go_simp; all_goals exact rfl) ?_
  simp only [sA, sB]
  clear HS
  refine ld fun W5 HS => ?_
  go_wp2
  have HF : single1 y0 = false := by
    unfold single1
    rw [cond_t h1.out]
  exact bodyPost_ret (v := .bool false) (by simp [results, Tryz.results14, go_sem]) rfl ⟨(by first | (rw [HF]; done) | (rw [HF]; rfl)), HS.out.below⟩
def single2  (y0 : Sc) (y1 : Sc)  : Bool :=
 bif (y0.t.hi != 0#64) then (false) else (bif (y1.t.hi != 0#64) then (false) else (true))
theorem single2_any  (K : Nat) (y0 : Sc) (y1 : Sc)   (w : World) (far0 : Blk.ok ⟨K, [some (.int .u64 (tn (y0.t.lo))), some (.int .u64 (tn (y0.t.hi))), some (.int .u64 (tn (y0.u.lo))), some (.int .u64 (tn (y0.u.hi))), some (.int .i64 (ti (y0.s.lo))), some (.int .i64 (ti (y0.s.hi))), some (.int .u64 (tn (y1.t.lo))), some (.int .u64 (tn (y1.t.hi))), some (.int .u64 (tn (y1.u.lo))), some (.int .u64 (tn (y1.u.hi))), some (.int .i64 (ti (y1.s.lo))), some (.int .i64 (ti (y1.s.hi)))], 31⟩ w) :
   Calls Tryz.prog 14 #[.slice (some ⟨K, 0, none⟩) 2 2] w fun e w' => e = .returned (.bool (single2 y0 y1)) ∧ Below w.heap.size w w' := by
 go_enter Tryz.func14, Tryz.ntmps14
 have HS : Hid (St w [] _) := hid (st_nil w)
 go_upto_region 1 with fail
 refine lnb HS.out rfl ?_
 refine lm 0 0 rfl rfl rfl rfl ?_
 simp only [sA, sB]
 refine lv 1 (.int .i64 2) rfl rfl (by intro x hx; go_simp; all_goals exact rfl) ?_
 simp only [sA, sB]
 refine lv 2 (.int .i64 0) rfl rfl (by intro x hx; go_simp; all_goals exact rfl) ?_
 simp only [sA, sB]
 clear HS
 refine ld fun W1 HS => ?_
 go_wp2
 refine wp_loop_rounds 70 ?_
 rw [rounds_succ]
 go_upto_region 2 with fail
 refine lnb HS.out rfl ?_
 refine lv 0 (.bool true) rfl rfl (by intro x hx; go_simp; all_goals exact rfl) ?_
 simp only [sA, sB]
 clear HS
 refine ld fun W2 HS => ?_
 go_upto_region 3 with fail
 refine lnb HS.out rfl ?_
 refine lv 0 (.pointer (some ⟨K, 0, none⟩)) rfl rfl (by intro x hx; go_simp; all_goals exact rfl) ?_
 simp only [sA, sB]
 refine lv 1 (vS y0) rfl rfl (by intro x hx; have f0 := far_load far0 hx 0 rfl; have f1 := far_load far0 hx 1 rfl; have f2 := far_load far0 hx 2 rfl; have f3 := far_load far0 hx 3 rfl; have f4 := far_load far0 hx 4 rfl; have f5 := far_load far0 hx 5 rfl; go_simp; all_goals exact rfl) ?_
 simp only [sA, sB, vS]
 refine lin_new (i := 2) rfl rfl (by rfl) [.int .u64 0, .int .u64 0, .int .u64 0, .int .u64 0, .int .i64 0, .int .i64 0] 31 (fun k => .pointer (some ⟨k, 0, none⟩)) [some (.int .u64 0), some (.int .u64 0), some (.int .u64 0), some (.int .u64 0), some (.int .i64 0), some (.int .i64 0)] (lessC_refl _) (by intro x hx; go_simp; all_goals exact rfl) (fun k1 => ?_)
 simp only [sA, sB, sD]
 refine ls 3 0 0 (cS y0) rfl rfl rfl (by intro x hx; obtain ⟨⟨_, z0, q0⟩, ⟨_, z1, q1⟩, ⟨_, z2, q2⟩, ⟨_, z3, q3⟩, ⟨_, z4, q4⟩, ⟨_, z5, q5⟩⟩ := hx.at6 0 0 rfl; go_simp; all_goals rfl) ?_
 simp only [Blk.putC, setM, cS, sA, sB]
 clear HS
 refine ld fun W3 HS => ?_
 go_upto_region 4 with fail
 refine lnb HS.out rfl ?_
 refine lv 0 (.pointer (some ⟨k1, 0, none⟩)) rfl rfl (by intro x hx; go_simp; all_goals exact rfl) ?_
 simp only [sA, sB]
 refine lv 1 (.pointer (some ⟨k1, 1, none⟩)) rfl rfl (by intro x hx; go_simp; all_goals exact rfl) ?_
 simp only [sA, sB]
 refine lv 2 (.int .u64 (tn (y0.t.hi))) rfl rfl (by intro x hx; have f0 := hx.load 0 1 rfl rfl; go_simp; all_goals exact rfl) ?_
 simp only [sA, sB]
 refine lv 3 (.bool ((y0.t.hi != 0#64))) rfl rfl (by intro x hx; go_simp; (first | done | exact neUT y0.t.hi 0#64 | exact congrArg _ (neUT y0.t.hi 0#64) | (rw [neUT y0.t.hi 0#64]; done) | (rw [neUT y0.t.hi 0#64]; rfl))) ?_
 simp only [sA, sB]
 clear HS
 refine ld fun W4 HS => ?_
 cases h1 : ((y0.t.hi != 0#64))
 ·replace h1 := hid h1
  go_upto_region 6 with fail
  refine lnb HS.out rfl ?_
  refine lv 0 (.int .i64 1) rfl rfl (by intro x hx; go_simp; all_goals exact rfl) ?_
  simp only [sA, sB]
  refine lm 1 15 rfl rfl rfl rfl ?_
  simp only [sA, sB]
  clear HS
  refine ld fun W5 HS => ?_
  go_wp2
  rw [rounds_succ]
  go_upto_region 2 with fail
  refine lnb HS.out rfl ?_
  refine lv 0 (.bool true) rfl rfl (by intro x hx; go_simp; all_goals exact rfl) ?_
  simp only [sA, sB]
  clear HS
  refine ld fun W6 HS => ?_
  go_upto_region 3 with fail
  refine lnb HS.out rfl ?_
  refine lv 0 (.pointer (some ⟨K, 6, none⟩)) rfl rfl (by intro x hx; go_simp; all_goals exact rfl) ?_
  simp only [sA, sB]
  refine lv 1 (vS y1) rfl rfl (by intro x hx; have f0 := far_load far0 hx 6 rfl; have f1 := far_load far0 hx 7 rfl; have f2 := far_load far0 hx 8 rfl; have f3 := far_load far0 hx 9 rfl; have f4 := far_load far0 hx 10 rfl; have f5 := far_load far0 hx 11 rfl; go_simp; all_goals exact rfl) ?_
  simp only [sA, sB, vS]
  refine lin_new (i := 2) rfl rfl (by rfl) [.int .u64 0, .int .u64 0, .int .u64 0, .int .u64 0, .int .i64 0, .int .i64 0] 31 (fun k => .pointer (some ⟨k, 0, none⟩)) [some (.int .u64 0), some (.int .u64 0), some (.int .u64 0), some (.int .u64 0), some (.int .i64 0), some (.int .i64 0)] (lessC_refl _) (by intro x hx; go_simp; all_goals exact rfl) (fun k2 => ?_)
  simp only [sA, sB, sC, sD]
  refine ls 3 1 0 (cS y1) rfl rfl rfl (by intro x hx; obtain ⟨⟨_, z0, q0⟩, ⟨_, z1, q1⟩, ⟨_, z2, q2⟩, ⟨_, z3, q3⟩, ⟨_, z4, q4⟩, ⟨_, z5, q5⟩⟩ := hx.at6 1 0 rfl; go_simp; all_goals rfl) ?_
  simp only [Blk.putC, setM, cS, sA, sB]
  clear HS
  refine ld fun W7 HS => ?_
  go_upto_region 4 with fail
  refine lnb HS.out rfl ?_
  refine lv 0 (.pointer (some ⟨k2, 0, none⟩)) rfl rfl (by intro x hx; go_simp; all_goals exact rfl) ?_
  simp only [sA, sB]
  refine lv 1 (.pointer (some ⟨k2, 1, none⟩)) rfl rfl (by intro x hx; go_simp; all_goals exact rfl) ?_
  simp only [sA, sB]
  refine lv 2 (.int .u64 (tn (y1.t.hi))) rfl rfl (by intro x hx; have f0 := hx.load 1 1 rfl rfl; go_simp; all_goals exact rfl) ?_
  simp only [sA, sB]
  refine lv 3 (.bool ((y1.t.hi != 0#64))) rfl rfl (by intro x hx; go_simp; (first | done | exact neUT y1.t.hi 0#64 | exact congrArg _ (neUT y1.t.hi 0#64) | (rw [neUT y1.t.hi 0#64]; done) | (rw [neUT y1.t.hi 0#64]; rfl))) ?_
  simp only [sA, sB]
  clear HS
  refine ld fun W8 HS => ?_
  cases h2 : ((y1.t.hi != 0#64))
  ·replace h2 := hid h2
   go_upto_region 6 with fail
   refine lnb HS.out rfl ?_
   refine lv 0 (.int .i64 2) rfl rfl (by intro x hx; go_simp; all_goals exact rfl) ?_
   simp only [sA, sB]
   refine lm 1 15 rfl rfl rfl rfl ?_
   simp only [sA, sB]
   clear HS
   refine ld fun W9 HS => ?_
   go_wp2
   rw [rounds_succ]
   go_upto_region 2 with fail
   refine lnb HS.out rfl ?_
   refine lv 0 (.bool false) rfl rfl (by intro x hx; go_simp; all_goals exact rfl) ?_
   simp only [sA, sB]
   clear HS
   refine ld fun W10 HS => ?_
   go_upto_region 7 with fail
   refine lnb HS.out rfl ?_
   refine lv 0 (.bool true) rfl rfl (by intro x hx; go_simp; all_goals exact rfl) ?_
   simp only [sA, sB]
   clear HS
   refine ld fun W11 HS => ?_
   go_wp2
   have HF : single2 y0 y1 = true := by
     unfold single2
     rw [cond_f h1.out, cond_f h2.out]
   exact bodyPost_ret (v := .bool true) (by simp [results, Tryz.results14, go_sem]) rfl ⟨(by first | (rw [HF]; done) | (rw [HF]; rfl)), HS.out.below⟩
  ·replace h2 := hid h2
   go_upto_region 5 with fail
   refine lnb HS.out rfl ?_
   refine lv 0 (.bool false) rfl rfl (by intro x hx; go_simp; all_goals exact rfl) ?_
   simp only [sA, sB]
   clear HS
   refine ld fun W9 HS => ?_
   go_wp2
   have HF : single2 y0 y1 = false := by
     unfold single2
     rw [cond_f h1.out, cond_t h2.out]
   exact bodyPost_ret (v := .bool false) (by simp [results, Tryz.results14, go_sem]) rfl ⟨(by first | (rw [HF]; done) | (rw [HF]; rfl)), HS.out.below⟩
 ·replace h1 := hid h1
  go_upto_region 5 with fail
  refine lnb HS.out rfl ?_
  refine lv 0 (.bool false) rfl rfl (by intro x hx; go_simp; all_goals exact rfl) ?_
  simp only [sA, sB]
  clear HS
  refine ld fun W5 HS => ?_
  go_wp2
  have HF : single2 y0 y1 = false := by
    unfold single2
    rw [cond_t h1.out]
  exact bodyPost_ret (v := .bool false) (by simp [results, Tryz.results14, go_sem]) rfl ⟨(by first | (rw [HF]; done) | (rw [HF]; rfl)), HS.out.below⟩
def partner5 (x0 : BitVec 64)  : BitVec 64 :=
 bif (x0 == 16#64) then (80#64) else (bif (x0 == 80#64) then (16#64) else (bif (x0 == 32#64) then (176#64) else (bif (x0 == 176#64) then (32#64) else (bif (x0 == 48#64) then (160#64) else (bif (x0 == 160#64) then (48#64) else (bif (x0 == 96#64) then (208#64) else (bif (x0 == 208#64) then (96#64) else (bif (x0 == 112#64) then (192#64) else (bif (x0 == 192#64) then (112#64) else (x0))))))))))
theorem partner5_any (x0 : BitVec 64) (K : Nat)   (w : World) (far0 : Blk.ok ⟨K, [some (.int .i64 16), some (.int .i64 80), some (.int .i64 32), some (.int .i64 176), some (.int .i64 48), some (.int .i64 160), some (.int .i64 96), some (.int .i64 208), some (.int .i64 112), some (.int .i64 192)], 112⟩ w) :
   Calls Tryz.prog 89 #[.int .i64 (ti (x0)), .slice (some ⟨K, 0, none⟩) 5 5] w fun e w' => e = .returned (.int .i64 (ti (partner5 x0))) ∧ Below w.heap.size w w' := by
 go_enter Tryz.func89, Tryz.ntmps89
 have HS : Hid (St w [] _) := hid (st_nil w)
 go_upto_region 1 with fail
 refine lnb HS.out rfl ?_
 refine lm 0 1 rfl rfl rfl rfl ?_
 simp only [sA, sB]
 refine lv 1 (.int .i64 5) rfl rfl (by intro x hx; go_simp; all_goals exact rfl) ?_
 simp only [sA, sB]
 refine lv 2 (.int .i64 0) rfl rfl (by intro x hx; go_simp; all_goals exact rfl) ?_
 simp only [sA, sB]
 clear HS
 refine ld fun W1 HS => ?_
 go_wp2
 refine wp_loop_rounds 70 ?_
 rw [rounds_succ]
 go_upto_region 2 with fail
 refine lnb HS.out rfl ?_
 refine lv 0 (.bool true) rfl rfl (by intro x hx; go_simp; all_goals exact rfl) ?_
 simp only [sA, sB]
 clear HS
 refine ld fun W2 HS => ?_
 go_upto_region 3 with fail
 refine lnb HS.out rfl ?_
 refine lv 0 (.pointer (some ⟨K, 0, none⟩)) rfl rfl (by intro x hx; go_simp; all_goals exact rfl) ?_
 simp only [sA, sB]
 refine lv 1 (.agg #[.int .i64 16, .int .i64 80]) rfl rfl (by intro x hx; have f0 := far_load far0 hx 0 rfl; have f1 := far_load far0 hx 1 rfl; go_simp; all_goals exact rfl) ?_
 simp only [sA, sB]
 refine lin_new (i := 2) rfl rfl (by rfl) [.int .i64 0, .int .i64 0] 112 (fun k => .pointer (some ⟨k, 0, none⟩)) [some (.int .i64 0), some (.int .i64 0)] (lessC_refl _) (by intro x hx; go_simp; all_goals exact rfl) (fun k1 => ?_)
 simp only [sA, sB, sD]
 refine ls 3 0 0 [.int .i64 16, .int .i64 80] rfl rfl rfl (by intro x hx; obtain ⟨⟨_, z0, q0⟩, ⟨_, z1, q1⟩⟩ := hx.at2 0 0 rfl; go_simp; all_goals rfl) ?_
 simp only [Blk.putC, setM, sA, sB]
 clear HS
 refine ld fun W3 HS => ?_
 go_upto_region 4 with fail
 refine lnb HS.out rfl ?_
 refine lm 0 0 rfl rfl rfl rfl ?_
 simp only [sA, sB]
 clear HS
 refine ld fun W4 HS => ?_
 go_upto_region 5 with fail
 refine lnb HS.out rfl ?_
 refine lv 0 (.pointer (some ⟨k1, 0, none⟩)) rfl rfl (by intro x hx; go_simp; all_goals exact rfl) ?_
 simp only [sA, sB]
 refine lv 1 (.int .i64 16) rfl rfl (by intro x hx; have f0 := hx.load 0 0 rfl rfl; go_simp; all_goals exact rfl) ?_
 simp only [sA, sB]
 refine lv 2 (.bool ((x0 == 16#64))) rfl rfl (by intro x hx; go_simp; (first | done | exact eqIT x0 16#64 | exact congrArg _ (eqIT x0 16#64) | (rw [eqIT x0 16#64]; done) | (rw [eqIT x0 16#64]; rfl))) ?_
 simp only [sA, sB]
 refine la 3 17 rfl rfl rfl rfl ?_
 simp only [sA, sB]
 clear HS
 refine ld fun W5 HS => ?_
 cases h1 : ((x0 == 16#64))
 ·replace h1 := hid h1
  go_upto_region 7 with fail
  refine lnb HS.out rfl ?_
  refine lv 0 (.pointer (some ⟨k1, 1, none⟩)) rfl rfl (by intro x hx; go_simp; all_goals exact rfl) ?_
  simp only [sA, sB]
  refine lv 1 (.int .i64 80) rfl rfl (by intro x hx; have f0 := hx.load 0 1 rfl rfl; go_simp; all_goals exact rfl) ?_
  simp only [sA, sB]
  refine lv 2 (.bool ((x0 == 80#64))) rfl rfl (by intro x hx; go_simp; (first | done | exact eqIT x0 80#64 | exact congrArg _ (eqIT x0 80#64) | (rw [eqIT x0 80#64]; done) | (rw [eqIT x0 80#64]; rfl))) ?_
  simp only [sA, sB]
  refine la 3 23 rfl rfl rfl rfl ?_
  simp only [sA, sB]
  clear HS
  refine ld fun W6 HS => ?_
  cases h2 : ((x0 == 80#64))
  ·replace h2 := hid h2
   go_upto_region 9 with fail
   refine lnb HS.out rfl ?_
   refine lv 0 (.int .i64 1) rfl rfl (by intro x hx; go_simp; all_goals exact rfl) ?_
   simp only [sA, sB]
   refine lm 1 26 rfl rfl rfl rfl ?_
   simp only [sA, sB]
   clear HS
   refine ld fun W7 HS => ?_
   go_wp2
   rw [rounds_succ]
   go_upto_region 2 with fail
   refine lnb HS.out rfl ?_
   refine lv 0 (.bool true) rfl rfl (by intro x hx; go_simp; all_goals exact rfl) ?_
   simp only [sA, sB]
   clear HS
   refine ld fun W8 HS => ?_
   go_upto_region 3 with fail
   refine lnb HS.out rfl ?_
   refine lv 0 (.pointer (some ⟨K, 2, none⟩)) rfl rfl (by intro x hx; go_simp; all_goals exact rfl) ?_
   simp only [sA, sB]
   refine lv 1 (.agg #[.int .i64 32, .int .i64 176]) rfl rfl (by intro x hx; have f0 := far_load far0 hx 2 rfl; have f1 := far_load far0 hx 3 rfl; go_simp; all_goals exact rfl) ?_
   simp only [sA, sB]
   refine lin_new (i := 2) rfl rfl (by rfl) [.int .i64 0, .int .i64 0] 112 (fun k => .pointer (some ⟨k, 0, none⟩)) [some (.int .i64 0), some (.int .i64 0)] (lessC_refl _) (by intro x hx; go_simp; all_goals exact rfl) (fun k2 => ?_)
   simp only [sA, sB, sC, sD]
   refine ls 3 1 0 [.int .i64 32, .int .i64 176] rfl rfl rfl (by intro x hx; obtain ⟨⟨_, z0, q0⟩, ⟨_, z1, q1⟩⟩ := hx.at2 1 0 rfl; go_simp; all_goals rfl) ?_
   simp only [Blk.putC, setM, sA, sB]
   clear HS
   refine ld fun W9 HS => ?_
   go_upto_region 4 with fail
   refine lnb HS.out rfl ?_
   refine lm 0 0 rfl rfl rfl rfl ?_
   simp only [sA, sB]
   clear HS
   refine ld fun W10 HS => ?_
   go_upto_region 5 with fail
   refine lnb HS.out rfl ?_
   refine lv 0 (.pointer (some ⟨k2, 0, none⟩)) rfl rfl (by intro x hx; go_simp; all_goals exact rfl) ?_
   simp only [sA, sB]
   refine lv 1 (.int .i64 32) rfl rfl (by intro x hx; have f0 := hx.load 1 0 rfl rfl; go_simp; all_goals exact rfl) ?_
   simp only [sA, sB]
   refine lv 2 (.bool ((x0 == 32#64))) rfl rfl (by intro x hx; go_simp; (first | done | exact eqIT x0 32#64 | exact congrArg _ (eqIT x0 32#64) | (rw [eqIT x0 32#64]; done) | (rw [eqIT x0 32#64]; rfl))) ?_
   simp only [sA, sB]
   refine la 3 17 rfl rfl rfl rfl ?_
   simp only [sA, sB]
   clear HS
   refine ld fun W11 HS => ?_
   cases h3 : ((x0 == 32#64))
   ·replace h3 := hid h3
    go_upto_region 7 with fail
    refine lnb HS.out rfl ?_
    refine lv 0 (.pointer (some ⟨k2, 1, none⟩)) rfl rfl (by intro x hx; go_simp; all_goals exact rfl) ?_
    simp only [sA, sB]
    refine lv 1 (.int .i64 176) rfl rfl (by intro x hx; have f0 := hx.load 1 1 rfl rfl; go_simp; all_goals exact rfl) ?_
    simp only [sA, sB]
    refine lv 2 (.bool ((x0 == 176#64))) rfl rfl (by intro x hx; go_simp; (first | done | exact eqIT x0 176#64 | exact congrArg _ (eqIT x0 176#64) | (rw [eqIT x0 176#64]; done) | (rw [eqIT x0 176#64]; rfl))) ?_
    simp only [sA, sB]
    refine la 3 23 rfl rfl rfl rfl ?_
    simp only [sA, sB]
    clear HS
    refine ld fun W12 HS => ?_
    cases h4 : ((x0 == 176#64))
    ·replace h4 := hid h4
     go_upto_region 9 with fail
     refine lnb HS.out rfl ?_
     refine lv 0 (.int .i64 2) rfl rfl (by intro x hx; go_simp; all_goals exact rfl) ?_
     simp only [sA, sB]
     refine lm 1 26 rfl rfl rfl rfl ?_
     simp only [sA, sB]
     clear HS
     refine ld fun W13 HS => ?_
     go_wp2
     rw [rounds_succ]
     go_upto_region 2 with fail
     refine lnb HS.out rfl ?_
     refine lv 0 (.bool true) rfl rfl (by intro x hx; go_simp; all_goals exact rfl) ?_
     simp only [sA, sB]
     clear HS
     refine ld fun W14 HS => ?_
     go_upto_region 3 with fail
     refine lnb HS.out rfl ?_
     refine lv 0 (.pointer (some ⟨K, 4, none⟩)) rfl rfl (by intro x hx; go_simp; all_goals exact rfl) ?_
     simp only [sA, sB]
     refine lv 1 (.agg #[.int .i64 48, .int .i64 160]) rfl rfl (by intro x hx; have f0 := far_load far0 hx 4 rfl; have f1 := far_load far0 hx 5 rfl; go_simp; all_goals exact rfl) ?_
     simp only [sA, sB]
     refine lin_new (i := 2) rfl rfl (by rfl) [.int .i64 0, .int .i64 0] 112 (fun k => .pointer (some ⟨k, 0, none⟩)) [some (.int .i64 0), some (.int .i64 0)] (lessC_refl _) (by intro x hx; go_simp; all_goals exact rfl) (fun k3 => ?_)
     simp only [sA, sB, sC, sD]
     refine ls 3 2 0 [.int .i64 48, .int .i64 160] rfl rfl rfl (by intro x hx; obtain ⟨⟨_, z0, q0⟩, ⟨_, z1, q1⟩⟩ := hx.at2 2 0 rfl; go_simp; all_goals rfl) ?_
     simp only [Blk.putC, setM, sA, sB]
     clear HS
     refine ld fun W15 HS => ?_
     go_upto_region 4 with fail
     refine lnb HS.out rfl ?_
     refine lm 0 0 rfl rfl rfl rfl ?_
     simp only [sA, sB]
     clear HS
     refine ld fun W16 HS => ?_
     go_upto_region 5 with fail
     refine lnb HS.out rfl ?_
     refine lv 0 (.pointer (some ⟨k3, 0, none⟩)) rfl rfl (by intro x hx; go_simp; all_goals exact rfl) ?_
     simp only [sA, sB]
     refine lv 1 (.int .i64 48) rfl rfl (by intro x hx; have f0 := hx.load 2 0 rfl rfl; go_simp; all_goals exact rfl) ?_
     simp only [sA, sB]
     refine lv 2 (.bool ((x0 == 48#64))) rfl rfl (by intro x hx; go_simp; (first | done | exact eqIT x0 48#64 | exact congrArg _ (eqIT x0 48#64) | (rw [eqIT x0 48#64]; done) | (rw [eqIT x0 48#64]; rfl))) ?_
     simp only [sA, sB]
     refine la 3 17 rfl rfl rfl rfl ?_
     simp only [sA, sB]
     clear HS
     refine ld fun W17 HS => ?_
     cases h5 : ((x0 == 48#64))
     ·replace h5 := hid h5
      go_upto_region 7 with fail
      refine lnb HS.out rfl ?_
      refine lv 0 (.pointer (some ⟨k3, 1, none⟩)) rfl rfl (by intro x hx; go_simp; all_goals exact rfl) ?_
      simp only [sA, sB]
      refine lv 1 (.int .i64 160) rfl rfl (by intro x hx; have f0 := hx.load 2 1 rfl rfl; go_simp; all_goals exact rfl) ?_
      simp only [sA, sB]
      refine lv 2 (.bool ((x0 == 160#64))) rfl rfl (by intro x hx; go_simp; (first | done | exact eqIT x0 160#64 | exact congrArg _ (eqIT x0 160#64) | (rw [eqIT x0 160#64]; done) | (rw [eqIT x0 160#64]; rfl))) ?_
      simp only [sA, sB]
      refine la 3 23 rfl rfl rfl rfl ?_
      simp only [sA, sB]
      clear HS
      refine ld fun W18 HS => ?_
      cases h6 : ((x0 == 160#64))
      ·replace h6 := hid h6
       go_upto_region 9 with fail
       refine lnb HS.out rfl ?_
       refine lv 0 (.int .i64 3) rfl rfl (by intro x hx; go_simp; all_goals exact rfl) ?_
       simp only [sA, sB]
       refine lm 1 26 rfl rfl rfl rfl ?_
       simp only [sA, sB]
       clear HS
       refine ld fun W19 HS => ?_
       go_wp2
       rw [rounds_succ]
       go_upto_region 2 with fail
       refine lnb HS.out rfl ?_
       refine lv 0 (.bool true) rfl rfl (by intro x hx; go_simp; all_goals exact rfl) ?_
       simp only [sA, sB]
       clear HS
       refine ld fun W20 HS => ?_
       go_upto_region 3 with fail
       refine lnb HS.out rfl ?_
       refine lv 0 (.pointer (some ⟨K, 6, none⟩)) rfl rfl (by intro x hx; go_simp; all_goals exact rfl) ?_
       simp only [sA, sB]
       refine lv 1 (.agg #[.int .i64 96, .int .i64 208]) rfl rfl (by intro x hx; have f0 := far_load far0 hx 6 rfl; have f1 := far_load far0 hx 7 rfl; go_simp; all_goals exact rfl) ?_
       simp only [sA, sB]
       refine lin_new (i := 2) rfl rfl (by rfl) [.int .i64 0, .int .i64 0] 112 (fun k => .pointer (some ⟨k, 0, none⟩)) [some (.int .i64 0), some (.int .i64 0)] (lessC_refl _) (by intro x hx; go_simp; all_goals exact rfl) (fun k4 => ?_)
       simp only [sA, sB, sC, sD]
       refine ls 3 3 0 [.int .i64 96, .int .i64 208] rfl rfl rfl (by intro x hx; obtain ⟨⟨_, z0, q0⟩, ⟨_, z1, q1⟩⟩ := hx.at2 3 0 rfl; go_simp; all_goals rfl) ?_
       simp only [Blk.putC, setM, sA, sB]
       clear HS
       refine ld fun W21 HS => ?_
       go_upto_region 4 with fail
       refine lnb HS.out rfl ?_
       refine lm 0 0 rfl rfl rfl rfl ?_
       simp only [sA, sB]
       clear HS
       refine ld fun W22 HS => ?_
       go_upto_region 5 with fail
       refine lnb HS.out rfl ?_
       refine lv 0 (.pointer (some ⟨k4, 0, none⟩)) rfl rfl (by intro x hx; go_simp; all_goals exact rfl) ?_
       simp only [sA, sB]
       refine lv 1 (.int .i64 96) rfl rfl (by intro x hx; have f0 := hx.load 3 0 rfl rfl; go_simp; all_goals exact rfl) ?_
       simp only [sA, sB]
       refine lv 2 (.bool ((x0 == 96#64))) rfl rfl (by intro x hx; go_simp; (first | done | exact eqIT x0 96#64 | exact congrArg _ (eqIT x0 96#64) | (rw [eqIT x0 96#64]; done) | (rw [eqIT x0 96#64]; rfl))) ?_
       simp only [sA, sB]
       refine la 3 17 rfl rfl rfl rfl ?_
       simp only [sA, sB]
       clear HS
       refine ld fun W23 HS => ?_
       cases h7 : ((x0 == 96#64))
       ·replace h7 := hid h7
        go_upto_region 7 with fail
        refine lnb HS.out rfl ?_
        refine lv 0 (.pointer (some ⟨k4, 1, none⟩)) rfl rfl (by intro x hx; go_simp; all_goals exact rfl) ?_
        simp only [sA, sB]
        refine lv 1 (.int .i64 208) rfl rfl (by intro x hx; have f0 := hx.load 3 1 rfl rfl; go_simp; all_goals exact rfl) ?_
        simp only [sA, sB]
        refine lv 2 (.bool ((x0 == 208#64))) rfl rfl (by intro x hx; go_simp; (first | done | exact eqIT x0 208#64 | exact congrArg _ (eqIT x0 208#64) | (rw [eqIT x0 208#64]; done) | (rw [eqIT x0 208#64]; rfl))) ?_
        simp only [sA, sB]
        refine la 3 23 rfl rfl rfl rfl ?_
        simp only [sA, sB]
        clear HS
        refine ld fun W24 HS => ?_
        cases h8 : ((x0 == 208#64))
        ·replace h8 := hid h8
         go_upto_region 9 with fail
         refine lnb HS.out rfl ?_
         refine lv 0 (.int .i64 4) rfl rfl (by intro x hx; go_simp; all_goals exact rfl) ?_
         simp only [sA, sB]
         refine lm 1 26 rfl rfl rfl rfl ?_
         simp only [sA, sB]
         clear HS
         refine ld fun W25 HS => ?_
         go_wp2
         rw [rounds_succ]
         go_upto_region 2 with fail
         refine lnb HS.out rfl ?_
         refine lv 0 (.bool true) rfl rfl (by intro x hx; go_simp; all_goals exact rfl) ?_
         simp only [sA, sB]
         clear HS
         refine ld fun W26 HS => ?_
         go_upto_region 3 with fail
         refine lnb HS.out rfl ?_
         refine lv 0 (.pointer (some ⟨K, 8, none⟩)) rfl rfl (by intro x hx; go_simp; all_goals exact rfl) ?_
         simp only [sA, sB]
         refine lv 1 (.agg #[.int .i64 112, .int .i64 192]) rfl rfl (by intro x hx; have f0 := far_load far0 hx 8 rfl; have f1 := far_load far0 hx 9 rfl; go_simp; all_goals exact rfl) ?_
         simp only [sA, sB]
         refine lin_new (i := 2) rfl rfl (by rfl) [.int .i64 0, .int .i64 0] 112 (fun k => .pointer (some ⟨k, 0, none⟩)) [some (.int .i64 0), some (.int .i64 0)] (lessC_refl _) (by intro x hx; go_simp; all_goals exact rfl) (fun k5 => ?_)
         simp only [sA, sB, sC, sD]
         refine ls 3 4 0 [.int .i64 112, .int .i64 192] rfl rfl rfl (by intro x hx; obtain ⟨⟨_, z0, q0⟩, ⟨_, z1, q1⟩⟩ := hx.at2 4 0 rfl; go_simp; all_goals rfl) ?_
         simp only [Blk.putC, setM, sA, sB]
         clear HS
         refine ld fun W27 HS => ?_
         go_upto_region 4 with fail
         refine lnb HS.out rfl ?_
         refine lm 0 0 rfl rfl rfl rfl ?_
         simp only [sA, sB]
         clear HS
         refine ld fun W28 HS => ?_
         go_upto_region 5 with fail
         refine lnb HS.out rfl ?_
         refine lv 0 (.pointer (some ⟨k5, 0, none⟩)) rfl rfl (by intro x hx; go_simp; all_goals exact rfl) ?_
         simp only [sA, sB]
         refine lv 1 (.int .i64 112) rfl rfl (by intro x hx; have f0 := hx.load 4 0 rfl rfl; go_simp; all_goals exact rfl) ?_
         simp only [sA, sB]
         refine lv 2 (.bool ((x0 == 112#64))) rfl rfl (by intro x hx; go_simp; (first | done | exact eqIT x0 112#64 | exact congrArg _ (eqIT x0 112#64) | (rw [eqIT x0 112#64]; done) | (rw [eqIT x0 112#64]; rfl))) ?_
         simp only [sA, sB]
         refine la 3 17 rfl rfl rfl rfl ?_
         simp only [sA, sB]
         clear HS
         refine ld fun W29 HS => ?_
         cases h9 : ((x0 == 112#64))
         ·replace h9 := hid h9
          go_upto_region 7 with fail
          refine lnb HS.out rfl ?_
          refine lv 0 (.pointer (some ⟨k5, 1, none⟩)) rfl rfl (by intro x hx; go_simp; all_goals exact rfl) ?_
          simp only [sA, sB]
          refine lv 1 (.int .i64 192) rfl rfl (by intro x hx; have f0 := hx.load 4 1 rfl rfl; go_simp; all_goals exact rfl) ?_
          simp only [sA, sB]
          refine lv 2 (.bool ((x0 == 192#64))) rfl rfl (by intro x hx; go_simp; (first | done | exact eqIT x0 192#64 | exact congrArg _ (eqIT x0 192#64) | (rw [eqIT x0 192#64]; done) | (rw [eqIT x0 192#64]; rfl))) ?_
          simp only [sA, sB]
          refine la 3 23 rfl rfl rfl rfl ?_
          simp only [sA, sB]
          clear HS
          refine ld fun W30 HS => ?_
          cases h10 : ((x0 == 192#64))
          ·replace h10 := hid h10
           go_upto_region 9 with fail
           refine lnb HS.out rfl ?_
           refine lv 0 (.int .i64 5) rfl rfl (by intro x hx; go_simp; all_goals exact rfl) ?_
           simp only [sA, sB]
           refine lm 1 26 rfl rfl rfl rfl ?_
           simp only [sA, sB]
           clear HS
           refine ld fun W31 HS => ?_
           go_wp2
           rw [rounds_succ]
           go_upto_region 2 with fail
           refine lnb HS.out rfl ?_
           refine lv 0 (.bool false) rfl rfl (by intro x hx; go_simp; all_goals exact rfl) ?_
           simp only [sA, sB]
           clear HS
           refine ld fun W32 HS => ?_
           go_upto_region 10 with fail
           refine lnb HS.out rfl ?_
           refine lm 0 0 rfl rfl rfl rfl ?_
           simp only [sA, sB]
           refine la 1 27 rfl rfl rfl rfl ?_
           simp only [sA, sB]
           clear HS
           refine ld fun W33 HS => ?_
           go_wp2
           have HF : partner5 x0 = x0 := by
             unfold partner5
             rw [cond_f h1.out, cond_f h2.out, cond_f h3.out, cond_f h4.out, cond_f h5.out, cond_f h6.out, cond_f h7.out, cond_f h8.out, cond_f h9.out, cond_f h10.out]
           exact bodyPost_ret (v := .int .i64 (ti (x0))) (by simp [results, Tryz.results89, go_sem]) rfl ⟨(by first | (rw [HF]; done) | (rw [HF]; rfl)), HS.out.below⟩
          ·replace h10 := hid h10
           go_upto_region 8 with fail
           refine lnb HS.out rfl ?_
           refine lv 0 (.pointer (some ⟨k5, 0, none⟩)) rfl rfl (by intro x hx; go_simp; all_goals exact rfl) ?_
           simp only [sA, sB]
           refine lv 1 (.int .i64 112) rfl rfl (by intro x hx; have f0 := hx.load 4 0 rfl rfl; go_simp; all_goals exact rfl) ?_
           simp only [sA, sB]
           refine la 2 25 rfl rfl rfl rfl ?_
           simp only [sA, sB]
           clear HS
           refine ld fun W31 HS => ?_
           go_wp2
           have HF : partner5 x0 = 112#64 := by
             unfold partner5
             rw [cond_f h1.out, cond_f h2.out, cond_f h3.out, cond_f h4.out, cond_f h5.out, cond_f h6.out, cond_f h7.out, cond_f h8.out, cond_f h9.out, cond_t h10.out]
           exact bodyPost_ret (v := .int .i64 112) (by simp [results, Tryz.results89, go_sem]) rfl ⟨(by first | (rw [HF]; done) | (rw [HF]; rfl)), HS.out.below⟩
         ·replace h9 := hid h9
          go_upto_region 6 with fail
          refine lnb HS.out rfl ?_
          refine lv 0 (.pointer (some ⟨k5, 1, none⟩)) rfl rfl (by intro x hx; go_simp; all_goals exact rfl) ?_
          simp only [sA, sB]
          refine lv 1 (.int .i64 192) rfl rfl (by intro x hx; have f0 := hx.load 4 1 rfl rfl; go_simp; all_goals exact rfl) ?_
          simp only [sA, sB]
          refine la 2 19 rfl rfl rfl rfl ?_
          simp only [sA, sB]
          clear HS
          refine ld fun W30 HS => ?_
          go_wp2
          have HF : partner5 x0 = 192#64 := by
            unfold partner5
            rw [cond_f h1.out, cond_f h2.out, cond_f h3.out, cond_f h4.out, cond_f h5.out, cond_f h6.out, cond_f h7.out, cond_f h8.out, cond_t h9.out]
          exact bodyPost_ret (v := .int .i64 192) (by simp [results, Tryz.results89, go_sem]) rfl ⟨(by first | (rw [HF]; done) | (rw [HF]; rfl)), HS.out.below⟩
        ·replace h8 := hid h8
         go_upto_region 8 with fail
         refine lnb HS.out rfl ?_
         refine lv 0 (.pointer (some ⟨k4, 0, none⟩)) rfl rfl (by intro x hx; go_simp; all_goals exact rfl) ?_
         simp only [sA, sB]
         refine lv 1 (.int .i64 96) rfl rfl (by intro x hx; have f0 := hx.load 3 0 rfl rfl; go_simp; all_goals exact rfl) ?_
         simp only [sA, sB]
         refine la 2 25 rfl rfl rfl rfl ?_
         simp only [sA, sB]
         clear HS
         refine ld fun W25 HS => ?_
         go_wp2
         have HF : partner5 x0 = 96#64 := by
           unfold partner5
           rw [cond_f h1.out, cond_f h2.out, cond_f h3.out, cond_f h4.out, cond_f h5.out, cond_f h6.out, cond_f h7.out, cond_t h8.out]
         exact bodyPost_ret (v := .int .i64 96) (by simp [results, Tryz.results89, go_sem]) rfl ⟨(by first | (rw [HF]; done) | (rw [HF]; rfl)), HS.out.below⟩
       ·replace h7 := hid h7
        go_upto_region 6 with fail
        refine lnb HS.out rfl ?_
        refine lv 0 (.pointer (some ⟨k4, 1, none⟩)) rfl rfl (by intro x hx; go_simp; all_goals exact rfl) ?_
        simp only [sA, sB]
        refine lv 1 (.int .i64 208) rfl rfl (by intro x hx; have f0 := hx.load 3 1 rfl rfl; go_simp; all_goals exact rfl) ?_
        simp only [sA, sB]
        refine la 2 19 rfl rfl rfl rfl ?_
        simp only [sA, sB]
        clear HS
        refine ld fun W24 HS => ?_
        go_wp2
        have HF : partner5 x0 = 208#64 := by
          unfold partner5
          rw [cond_f h1.out, cond_f h2.out, cond_f h3.out, cond_f h4.out, cond_f h5.out, cond_f h6.out, cond_t h7.out]
        exact bodyPost_ret (v := .int .i64 208) (by simp [results, Tryz.results89, go_sem]) rfl ⟨(by first | (rw [HF]; done) | (rw [HF]; rfl)), HS.out.below⟩
      ·replace h6 := hid h6
       go_upto_region 8 with fail
       refine lnb HS.out rfl ?_
       refine lv 0 (.pointer (some ⟨k3, 0, none⟩)) rfl rfl (by intro x hx; go_simp; all_goals exact rfl) ?_
       simp only [sA, sB]
       refine lv 1 (.int .i64 48) rfl rfl (by intro x hx; have f0 := hx.load 2 0 rfl rfl; go_simp; all_goals exact rfl) ?_
       simp only [sA, sB]
       refine la 2 25 rfl rfl rfl rfl ?_
       simp only [sA, sB]
       clear HS
       refine ld fun W19 HS => ?_
       go_wp2
       have HF : partner5 x0 = 48#64 := by
         unfold partner5
         rw [cond_f h1.out, cond_f h2.out, cond_f h3.out, cond_f h4.out, cond_f h5.out, cond_t h6.out]
       exact bodyPost_ret (v := .int .i64 48) (by simp [results, Tryz.results89, go_sem]) rfl ⟨(by first | (rw [HF]; done) | (rw [HF]; rfl)), HS.out.below⟩
     ·replace h5 := hid h5
      go_upto_region 6 with fail
      refine lnb HS.out rfl ?_
      refine lv 0 (.pointer (some ⟨k3, 1, none⟩)) rfl rfl (by intro x hx; go_simp; all_goals exact rfl) ?_
      simp only [sA, sB]
      refine lv 1 (.int .i64 160) rfl rfl (by intro x hx; have f0 := hx.load 2 1 rfl rfl; go_simp; all_goals exact rfl) ?_
      simp only [sA, sB]
      refine la 2 19 rfl rfl rfl rfl ?_
      simp only [sA, sB]
      clear HS
      refine ld fun W18 HS => ?_
      go_wp2
      have HF : partner5 x0 = 160#64 := by
        unfold partner5
        rw [cond_f h1.out, cond_f h2.out, cond_f h3.out, cond_f h4.out, cond_t h5.out]
      exact bodyPost_ret (v := .int .i64 160) (by simp [results, Tryz.results89, go_sem]) rfl ⟨(by first | (rw [HF]; done) | (rw [HF]; rfl)), HS.out.below⟩
    ·replace h4 := hid h4
     go_upto_region 8 with fail
     refine lnb HS.out rfl ?_
     refine lv 0 (.pointer (some ⟨k2, 0, none⟩)) rfl rfl (by intro x hx; go_simp; all_goals exact rfl) ?_
     simp only [sA, sB]
     refine lv 1 (.int .i64 32) rfl rfl (by intro x hx; have f0 := hx.load 1 0 rfl rfl; go_simp; all_goals exact rfl) ?_
     simp only [sA, sB]
     refine la 2 25 rfl rfl rfl rfl ?_
     simp only [sA, sB]
     clear HS
     refine ld fun W13 HS => ?_
     go_wp2
     have HF : partner5 x0 = 32#64 := by
       unfold partner5
       rw [cond_f h1.out, cond_f h2.out, cond_f h3.out, cond_t h4.out]
     exact bodyPost_ret (v := .int .i64 32) (by simp [results, Tryz.results89, go_sem]) rfl ⟨(by first | (rw [HF]; done) | (rw [HF]; rfl)), HS.out.below⟩
   ·replace h3 := hid h3
    go_upto_region 6 with fail
    refine lnb HS.out rfl ?_
    refine lv 0 (.pointer (some ⟨k2, 1, none⟩)) rfl rfl (by intro x hx; go_simp; all_goals exact rfl) ?_
    simp only [sA, sB]
    refine lv 1 (.int .i64 176) rfl rfl (by intro x hx; have f0 := hx.load 1 1 rfl rfl; go_simp; all_goals exact rfl) ?_
    simp only [sA, sB]
    refine la 2 19 rfl rfl rfl rfl ?_
    simp only [sA, sB]
    clear HS
    refine ld fun W12 HS => ?_
    go_wp2
    have HF : partner5 x0 = 176#64 := by
      unfold partner5
      rw [cond_f h1.out, cond_f h2.out, cond_t h3.out]
    exact bodyPost_ret (v := .int .i64 176) (by simp [results, Tryz.results89, go_sem]) rfl ⟨(by first | (rw [HF]; done) | (rw [HF]; rfl)), HS.out.below⟩
  ·replace h2 := hid h2
   go_upto_region 8 with fail
   refine lnb HS.out rfl ?_
   refine lv 0 (.pointer (some ⟨k1, 0, none⟩)) rfl rfl (by intro x hx; go_simp; all_goals exact rfl) ?_
   simp only [sA, sB]
   refine lv 1 (.int .i64 16) rfl rfl (by intro x hx; have f0 := hx.load 0 0 rfl rfl; go_simp; all_goals exact rfl) ?_
   simp only [sA, sB]
   refine la 2 25 rfl rfl rfl rfl ?_
   simp only [sA, sB]
   clear HS
   refine ld fun W7 HS => ?_
   go_wp2
   have HF : partner5 x0 = 16#64 := by
     unfold partner5
     rw [cond_f h1.out, cond_t h2.out]
   exact bodyPost_ret (v := .int .i64 16) (by simp [results, Tryz.results89, go_sem]) rfl ⟨(by first | (rw [HF]; done) | (rw [HF]; rfl)), HS.out.below⟩
 ·replace h1 := hid h1
  go_upto_region 6 with fail
  refine lnb HS.out rfl ?_
  refine lv 0 (.pointer (some ⟨k1, 1, none⟩)) rfl rfl (by intro x hx; go_simp; all_goals exact rfl) ?_
  simp only [sA, sB]
  refine lv 1 (.int .i64 80) rfl rfl (by intro x hx; have f0 := hx.load 0 1 rfl rfl; go_simp; all_goals exact rfl) ?_
  simp only [sA, sB]
  refine la 2 19 rfl rfl rfl rfl ?_
  simp only [sA, sB]
  clear HS
  refine ld fun W6 HS => ?_
  go_wp2
  have HF : partner5 x0 = 80#64 := by
    unfold partner5
    rw [cond_t h1.out]
  exact bodyPost_ret (v := .int .i64 80) (by simp [results, Tryz.results89, go_sem]) rfl ⟨(by first | (rw [HF]; done) | (rw [HF]; rfl)), HS.out.below⟩
def partner4 (x0 : BitVec 64)  : BitVec 64 :=
 bif (x0 == 32#64) then (160#64) else (bif (x0 == 160#64) then (32#64) else (bif (x0 == 48#64) then (176#64) else (bif (x0 == 176#64) then (48#64) else (bif (x0 == 96#64) then (192#64) else (bif (x0 == 192#64) then (96#64) else (bif (x0 == 112#64) then (208#64) else (bif (x0 == 208#64) then (112#64) else (x0))))))))
theorem partner4_any (x0 : BitVec 64) (K : Nat)   (w : World) (far0 : Blk.ok ⟨K, [some (.int .i64 32), some (.int .i64 160), some (.int .i64 48), some (.int .i64 176), some (.int .i64 96), some (.int .i64 192), some (.int .i64 112), some (.int .i64 208)], 112⟩ w) :
   Calls Tryz.prog 89 #[.int .i64 (ti (x0)), .slice (some ⟨K, 0, none⟩) 4 4] w fun e w' => e = .returned (.int .i64 (ti (partner4 x0))) ∧ Below w.heap.size w w' := by
 go_enter Tryz.func89, Tryz.ntmps89
 have HS : Hid (St w [] _) := hid (st_nil w)
 go_upto_region 1 with fail
 refine lnb HS.out rfl ?_
 refine lm 0 1 rfl rfl rfl rfl ?_
 simp only [sA, sB]
 refine lv 1 (.int .i64 4) rfl rfl (by intro x hx; go_simp; all_goals exact rfl) ?_
 simp only [sA, sB]
 refine lv 2 (.int .i64 0) rfl rfl (by intro x hx; go_simp; all_goals exact rfl) ?_
 simp only [sA, sB]
 clear HS
 refine ld fun W1 HS => ?_
 go_wp2
 refine wp_loop_rounds 70 ?_
 rw [rounds_succ]
 go_upto_region 2 with fail
 refine lnb HS.out rfl ?_
 refine lv 0 (.bool true) rfl rfl (by intro x hx; go_simp; all_goals exact rfl) ?_
 simp only [sA, sB]
 clear HS
 refine ld fun W2 HS => ?_
 go_upto_region 3 with fail
 refine lnb HS.out rfl ?_
 refine lv 0 (.pointer (some ⟨K, 0, none⟩)) rfl rfl (by intro x hx; go_simp; all_goals exact rfl) ?_
 simp only [sA, sB]
 refine lv 1 (.agg #[.int .i64 32, .int .i64 160]) rfl rfl (by intro x hx; have f0 := far_load far0 hx 0 rfl; have f1 := far_load far0 hx 1 rfl; go_simp; all_goals exact rfl) ?_
 simp only [sA, sB]
 refine lin_new (i := 2) rfl rfl (by rfl) [.int .i64 0, .int .i64 0] 112 (fun k => .pointer (some ⟨k, 0, none⟩)) [some (.int .i64 0), some (.int .i64 0)] (lessC_refl _) (by intro x hx; go_simp; all_goals exact rfl) (fun k1 => ?_)
 simp only [sA, sB, sD]
 refine ls 3 0 0 [.int .i64 32, .int .i64 160] rfl rfl rfl (by intro x hx; obtain ⟨⟨_, z0, q0⟩, ⟨_, z1, q1⟩⟩ := hx.at2 0 0 rfl; go_simp; all_goals rfl) ?_
 simp only [Blk.putC, setM, sA, sB]
 clear HS
 refine ld fun W3 HS => ?_
 go_upto_region 4 with fail
 refine lnb HS.out rfl ?_
 refine lm 0 0 rfl rfl rfl rfl ?_
 simp only [sA, sB]
 clear HS
 refine ld fun W4 HS => ?_
 go_upto_region 5 with fail
 refine lnb HS.out rfl ?_
 refine lv 0 (.pointer (some ⟨k1, 0, none⟩)) rfl rfl (by intro x hx; go_simp; all_goals exact rfl) ?_
 simp only [sA, sB]
 refine lv 1 (.int .i64 32) rfl rfl (by intro x hx; have f0 := hx.load 0 0 rfl rfl; go_simp; all_goals exact rfl) ?_
 simp only [sA, sB]
 refine lv 2 (.bool ((x0 == 32#64))) rfl rfl (by intro x hx; go_simp; (first | done | exact eqIT x0 32#64 | exact congrArg _ (eqIT x0 32#64) | (rw [eqIT x0 32#64]; done) | (rw [eqIT x0 32#64]; rfl))) ?_
 simp only [sA, sB]
 refine la 3 17 rfl rfl rfl rfl ?_
 simp only [sA, sB]
 clear HS
 refine ld fun W5 HS => ?_
 cases h1 : ((x0 == 32#64))
 ·replace h1 := hid h1
  go_upto_region 7 with fail
  refine lnb HS.out rfl ?_
  refine lv 0 (.pointer (some ⟨k1, 1, none⟩)) rfl rfl (by intro x hx; go_simp; all_goals exact rfl) ?_
  simp only [sA, sB]
  refine lv 1 (.int .i64 160) rfl rfl (by intro x hx; have f0 := hx.load 0 1 rfl rfl; go_simp; all_goals exact rfl) ?_
  simp only [sA, sB]
  refine lv 2 (.bool ((x0 == 160#64))) rfl rfl (by intro x hx; go_simp; (first | done | exact eqIT x0 160#64 | exact congrArg _ (eqIT x0 160#64) | (rw [eqIT x0 160#64]; done) | (rw [eqIT x0 160#64]; rfl))) ?_
  simp only [sA, sB]
  refine la 3 23 rfl rfl rfl rfl ?_
  simp only [sA, sB]
  clear HS
  refine ld fun W6 HS => ?_
  cases h2 : ((x0 == 160#64))
  ·replace h2 := hid h2
   go_upto_region 9 with fail
   refine lnb HS.out rfl ?_
   refine lv 0 (.int .i64 1) rfl rfl (by intro x hx; go_simp; all_goals exact rfl) ?_
   simp only [sA, sB]
   refine lm 1 26 rfl rfl rfl rfl ?_
   simp only [sA, sB]
   clear HS
   refine ld fun W7 HS => ?_
   go_wp2
   rw [rounds_succ]
   go_upto_region 2 with fail
   refine lnb HS.out rfl ?_
   refine lv 0 (.bool true) rfl rfl (by intro x hx; go_simp; all_goals exact rfl) ?_
   simp only [sA, sB]
   clear HS
   refine ld fun W8 HS => ?_
   go_upto_region 3 with fail
   refine lnb HS.out rfl ?_
   refine lv 0 (.pointer (some ⟨K, 2, none⟩)) rfl rfl (by intro x hx; go_simp; all_goals exact rfl) ?_
   simp only [sA, sB]
   refine lv 1 (.agg #[.int .i64 48, .int .i64 176]) rfl rfl (by intro x hx; have f0 := far_load far0 hx 2 rfl; have f1 := far_load far0 hx 3 rfl; go_simp; all_goals exact rfl) ?_
   simp only [sA, sB]
   refine lin_new (i := 2) rfl rfl (by rfl) [.int .i64 0, .int .i64 0] 112 (fun k => .pointer (some ⟨k, 0, none⟩)) [some (.int .i64 0), some (.int .i64 0)] (lessC_refl _) (by intro x hx; go_simp; all_goals exact rfl) (fun k2 => ?_)
   simp only [sA, sB, sC, sD]
   refine ls 3 1 0 [.int .i64 48, .int .i64 176] rfl rfl rfl (by intro x hx; obtain ⟨⟨_, z0, q0⟩, ⟨_, z1, q1⟩⟩ := hx.at2 1 0 rfl; go_simp; all_goals rfl) ?_
   simp only [Blk.putC, setM, sA, sB]
   clear HS
   refine ld fun W9 HS => ?_
   go_upto_region 4 with fail
   refine lnb HS.out rfl ?_
   refine lm 0 0 rfl rfl rfl rfl ?_
   simp only [sA, sB]
   clear HS
   refine ld fun W10 HS => ?_
   go_upto_region 5 with fail
   refine lnb HS.out rfl ?_
   refine lv 0 (.pointer (some ⟨k2, 0, none⟩)) rfl rfl (by intro x hx; go_simp; all_goals exact rfl) ?_
   simp only [sA, sB]
   refine lv 1 (.int .i64 48) rfl rfl (by intro x hx; have f0 := hx.load 1 0 rfl rfl; go_simp; all_goals exact rfl) ?_
   simp only [sA, sB]
   refine lv 2 (.bool ((x0 == 48#64))) rfl rfl (by intro x hx; go_simp; (first | done | exact eqIT x0 48#64 | exact congrArg _ (eqIT x0 48#64) | (rw [eqIT x0 48#64]; done) | (rw [eqIT x0 48#64]; rfl))) ?_
   simp only [sA, sB]
   refine la 3 17 rfl rfl rfl rfl ?_
   simp only [sA, sB]
   clear HS
   refine ld fun W11 HS => ?_
   cases h3 : ((x0 == 48#64))
   ·replace h3 := hid h3
    go_upto_region 7 with fail
    refine lnb HS.out rfl ?_
    refine lv 0 (.pointer (some ⟨k2, 1, none⟩)) rfl rfl (by intro x hx; go_simp; all_goals exact rfl) ?_
    simp only [sA, sB]
    refine lv 1 (.int .i64 176) rfl rfl (by intro x hx; have f0 := hx.load 1 1 rfl rfl; go_simp; all_goals exact rfl) ?_
    simp only [sA, sB]
    refine lv 2 (.bool ((x0 == 176#64))) rfl rfl (by intro x hx; go_simp; (first | done | exact eqIT x0 176#64 | exact congrArg _ (eqIT x0 176#64) | (rw [eqIT x0 176#64]; done) | (rw [eqIT x0 176#64]; rfl))) ?_
    simp only [sA, sB]
    refine la 3 23 rfl rfl rfl rfl ?_
    simp only [sA, sB]
    clear HS
    refine ld fun W12 HS => ?_
    cases h4 : ((x0 == 176#64))
    ·replace h4 := hid h4
     go_upto_region 9 with fail
     refine lnb HS.out rfl ?_
     refine lv 0 (.int .i64 2) rfl rfl (by intro x hx; go_simp; all_goals exact rfl) ?_
     simp only [sA, sB]
     refine lm 1 26 rfl rfl rfl rfl ?_
     simp only [sA, sB]
     clear HS
     refine ld fun W13 HS => ?_
     go_wp2
     rw [rounds_succ]
     go_upto_region 2 with fail
     refine lnb HS.out rfl ?_
     refine lv 0 (.bool true) rfl rfl (by intro x hx; go_simp; all_goals exact rfl) ?_
     simp only [sA, sB]
     clear HS
     refine ld fun W14 HS => ?_
     go_upto_region 3 with fail
     refine lnb HS.out rfl ?_
     refine lv 0 (.pointer (some ⟨K, 4, none⟩)) rfl rfl (by intro x hx; go_simp; all_goals exact rfl) ?_
     simp only [sA, sB]
     refine lv 1 (.agg #[.int .i64 96, .int .i64 192]) rfl rfl (by intro x hx; have f0 := far_load far0 hx 4 rfl; have f1 := far_load far0 hx 5 rfl; go_simp; all_goals exact rfl) ?_
     simp only [sA, sB]
     refine lin_new (i := 2) rfl rfl (by rfl) [.int .i64 0, .int .i64 0] 112 (fun k => .pointer (some ⟨k, 0, none⟩)) [some (.int .i64 0), some (.int .i64 0)] (lessC_refl _) (by intro x hx; go_simp; all_goals exact rfl) (fun k3 => ?_)
     simp only [sA, sB, sC, sD]
     refine ls 3 2 0 [.int .i64 96, .int .i64 192] rfl rfl rfl (by intro x hx; obtain ⟨⟨_, z0, q0⟩, ⟨_, z1, q1⟩⟩ := hx.at2 2 0 rfl; go_simp; all_goals rfl) ?_
     simp only [Blk.putC, setM, sA, sB]
     clear HS
     refine ld fun W15 HS => ?_
     go_upto_region 4 with fail
     refine lnb HS.out rfl ?_
     refine lm 0 0 rfl rfl rfl rfl ?_
     simp only [sA, sB]
     clear HS
     refine ld fun W16 HS => ?_
     go_upto_region 5 with fail
     refine lnb HS.out rfl ?_
     refine lv 0 (.pointer (some ⟨k3, 0, none⟩)) rfl rfl (by intro x hx; go_simp; all_goals exact rfl) ?_
     simp only [sA, sB]
     refine lv 1 (.int .i64 96) rfl rfl (by intro x hx; have f0 := hx.load 2 0 rfl rfl; go_simp; all_goals exact rfl) ?_
     simp only [sA, sB]
     refine lv 2 (.bool ((x0 == 96#64))) rfl rfl (by intro x hx; go_simp; (first | done | exact eqIT x0 96#64 | exact congrArg _ (eqIT x0 96#64) | (rw [eqIT x0 96#64]; done) | (rw [eqIT x0 96#64]; rfl))) ?_
     simp only [sA, sB]
     refine la 3 17 rfl rfl rfl rfl ?_
     simp only [sA, sB]
     clear HS
     refine ld fun W17 HS => ?_
     cases h5 : ((x0 == 96#64))
     ·replace h5 := hid h5
      go_upto_region 7 with fail
      refine lnb HS.out rfl ?_
      refine lv 0 (.pointer (some ⟨k3, 1, none⟩)) rfl rfl (by intro x hx; go_simp; all_goals exact rfl) ?_
      simp only [sA, sB]
      refine lv 1 (.int .i64 192) rfl rfl (by intro x hx; have f0 := hx.load 2 1 rfl rfl; go_simp; all_goals exact rfl) ?_
      simp only [sA, sB]
      refine lv 2 (.bool ((x0 == 192#64))) rfl rfl (by intro x hx; go_simp; (first | done | exact eqIT x0 192#64 | exact congrArg _ (eqIT x0 192#64) | (rw [eqIT x0 192#64]; done) | (rw [eqIT x0 192#64]; rfl))) ?_
      simp only [sA, sB]
      refine la 3 23 rfl rfl rfl rfl ?_
      simp only [sA, sB]
      clear HS
      refine ld fun W18 HS => ?_
      cases h6 : ((x0 == 192#64))
      ·replace h6 := hid h6
       go_upto_region 9 with fail
       refine lnb HS.out rfl ?_
       refine lv 0 (.int .i64 3) rfl rfl (by intro x hx; go_simp; all_goals exact rfl) ?_
       simp only [sA, sB]
       refine lm 1 26 rfl rfl rfl rfl ?_
       simp only [sA, sB]
       clear HS
       refine ld fun W19 HS => ?_
       go_wp2
       rw [rounds_succ]
       go_upto_region 2 with fail
       refine lnb HS.out rfl ?_
       refine lv 0 (.bool true) rfl rfl (by intro x hx; go_simp; all_goals exact rfl) ?_
       simp only [sA, sB]
       clear HS
       refine ld fun W20 HS => ?_
       go_upto_region 3 with fail
       refine lnb HS.out rfl ?_
       refine lv 0 (.pointer (some ⟨K, 6, none⟩)) rfl rfl (by intro x hx; go_simp; all_goals exact rfl) ?_
       simp only [sA, sB]
       refine lv 1 (.agg #[.int .i64 112, .int .i64 208]) rfl rfl (by intro x hx; have f0 := far_load far0 hx 6 rfl; have f1 := far_load far0 hx 7 rfl; go_simp; all_goals exact rfl) ?_
       simp only [sA, sB]
       refine lin_new (i := 2) rfl rfl (by rfl) [.int .i64 0, .int .i64 0] 112 (fun k => .pointer (some ⟨k, 0, none⟩)) [some (.int .i64 0), some (.int .i64 0)] (lessC_refl _) (by intro x hx; go_simp; all_goals exact rfl) (fun k4 => ?_)
       simp only [sA, sB, sC, sD]
       refine ls 3 3 0 [.int .i64 112, .int .i64 208] rfl rfl rfl (by intro x hx; obtain ⟨⟨_, z0, q0⟩, ⟨_, z1, q1⟩⟩ := hx.at2 3 0 rfl; go_simp; all_goals rfl) ?_
       simp only [Blk.putC, setM, sA, sB]
       clear HS
       refine ld fun W21 HS => ?_
       go_upto_region 4 with fail
       refine lnb HS.out rfl ?_
       refine lm 0 0 rfl rfl rfl rfl ?_
       simp only [sA, sB]
       clear HS
       refine ld fun W22 HS => ?_
       go_upto_region 5 with fail
       refine lnb HS.out rfl ?_
       refine lv 0 (.pointer (some ⟨k4, 0, none⟩)) rfl rfl (by intro x hx; go_simp; all_goals exact rfl) ?_
       simp only [sA, sB]
       refine lv 1 (.int .i64 112) rfl rfl (by intro x hx; have f0 := hx.load 3 0 rfl rfl; go_simp; all_goals exact rfl) ?_
       simp only [sA, sB]
       refine lv 2 (.bool ((x0 == 112#64))) rfl rfl (by intro x hx; go_simp; (first | done | exact eqIT x0 112#64 | exact congrArg _ (eqIT x0 112#64) | (rw [eqIT x0 112#64]; done) | (rw [eqIT x0 112#64]; rfl))) ?_
       simp only [sA, sB]
       refine la 3 17 rfl rfl rfl rfl ?_
       simp only [sA, sB]
       clear HS
       refine ld fun W23 HS => ?_
       cases h7 : ((x0 == 112#64))
       ·replace h7 := hid h7
        go_upto_region 7 with fail
        refine lnb HS.out rfl ?_
        refine lv 0 (.pointer (some ⟨k4, 1, none⟩)) rfl rfl (by intro x hx; go_simp; all_goals exact rfl) ?_
        simp only [sA, sB]
        refine lv 1 (.int .i64 208) rfl rfl (by intro x hx; have f0 := hx.load 3 1 rfl rfl; go_simp; all_goals exact rfl) ?_
        simp only [sA, sB]
        refine lv 2 (.bool ((x0 == 208#64))) rfl rfl (by intro x hx; go_simp; (first | done | exact eqIT x0 208#64 | exact congrArg _ (eqIT x0 208#64) | (rw [eqIT x0 208#64]; done) | (rw [eqIT x0 208#64]; rfl))) ?_
        simp only [sA, sB]
        refine la 3 23 rfl rfl rfl rfl ?_
        simp only [sA, sB]
        clear HS
        refine ld fun W24 HS => ?_
        cases h8 : ((x0 == 208#64))
        ·replace h8 := hid h8
         go_upto_region 9 with fail
         refine lnb HS.out rfl ?_
         refine lv 0 (.int .i64 4) rfl rfl (by intro x hx; go_simp; all_goals exact rfl) ?_
         simp only [sA, sB]
         refine lm 1 26 rfl rfl rfl rfl ?_
         simp only [sA, sB]
         clear HS
         refine ld fun W25 HS => ?_
         go_wp2
         rw [rounds_succ]
         go_upto_region 2 with fail
         refine lnb HS.out rfl ?_
         refine lv 0 (.bool false) rfl rfl (by intro x hx; go_simp; all_goals exact rfl) ?_
         simp only [sA, sB]
         clear HS
         refine ld fun W26 HS => ?_
         go_upto_region 10 with fail
         refine lnb HS.out rfl ?_
         refine lm 0 0 rfl rfl rfl rfl ?_
         simp only [sA, sB]
         refine la 1 27 rfl rfl rfl rfl ?_
         simp only [sA, sB]
         clear HS
         refine ld fun W27 HS => ?_
         go_wp2
         have HF : partner4 x0 = x0 := by
           unfold partner4
           rw [cond_f h1.out, cond_f h2.out, cond_f h3.out, cond_f h4.out, cond_f h5.out, cond_f h6.out, cond_f h7.out, cond_f h8.out]
         exact bodyPost_ret (v := .int .i64 (ti (x0))) (by simp [results, Tryz.results89, go_sem]) rfl ⟨(by first | (rw [HF]; done) | (rw [HF]; rfl)), HS.out.below⟩
        ·replace h8 := hid h8
         go_upto_region 8 with fail
         refine lnb HS.out rfl ?_
         refine lv 0 (.pointer (some ⟨k4, 0, none⟩)) rfl rfl (by intro x hx; go_simp; all_goals exact rfl) ?_
         simp only [sA, sB]
         refine lv 1 (.int .i64 112) rfl rfl (by intro x hx; have f0 := hx.load 3 0 rfl rfl; go_simp; all_goals exact rfl) ?_
         simp only [sA, sB]
         refine la 2 25 rfl rfl rfl rfl ?_
         simp only [sA, sB]
         clear HS
         refine ld fun W25 HS => ?_
         go_wp2
         have HF : partner4 x0 = 112#64 := by
           unfold partner4
           rw [cond_f h1.out, cond_f h2.out, cond_f h3.out, cond_f h4.out, cond_f h5.out, cond_f h6.out, cond_f h7.out, cond_t h8.out]
         exact bodyPost_ret (v := .int .i64 112) (by simp [results, Tryz.results89, go_sem]) rfl ⟨(by first | (rw [HF]; done) | (rw [HF]; rfl)), HS.out.below⟩
       ·replace h7 := hid h7
        go_upto_region 6 with fail
        refine lnb HS.out rfl ?_
        refine lv 0 (.pointer (some ⟨k4, 1, none⟩)) rfl rfl (by intro x hx; go_simp; all_goals exact rfl) ?_
        simp only [sA, sB]
        refine lv 1 (.int .i64 208) rfl rfl (by intro x hx; have f0 := hx.load 3 1 rfl rfl; go_simp; all_goals exact rfl) ?_
        simp only [sA, sB]
        refine la 2 19 rfl rfl rfl rfl ?_
        simp only [sA, sB]
        clear HS
        refine ld fun W24 HS => ?_
        go_wp2
        have HF : partner4 x0 = 208#64 := by
          unfold partner4
          rw [cond_f h1.out, cond_f h2.out, cond_f h3.out, cond_f h4.out, cond_f h5.out, cond_f h6.out, cond_t h7.out]
        exact bodyPost_ret (v := .int .i64 208) (by simp [results, Tryz.results89, go_sem]) rfl ⟨(by first | (rw [HF]; done) | (rw [HF]; rfl)), HS.out.below⟩
      ·replace h6 := hid h6
       go_upto_region 8 with fail
       refine lnb HS.out rfl ?_
       refine lv 0 (.pointer (some ⟨k3, 0, none⟩)) rfl rfl (by intro x hx; go_simp; all_goals exact rfl) ?_
       simp only [sA, sB]
       refine lv 1 (.int .i64 96) rfl rfl (by intro x hx; have f0 := hx.load 2 0 rfl rfl; go_simp; all_goals exact rfl) ?_
       simp only [sA, sB]
       refine la 2 25 rfl rfl rfl rfl ?_
       simp only [sA, sB]
       clear HS
       refine ld fun W19 HS => ?_
       go_wp2
       have HF : partner4 x0 = 96#64 := by
         unfold partner4
         rw [cond_f h1.out, cond_f h2.out, cond_f h3.out, cond_f h4.out, cond_f h5.out, cond_t h6.out]
       exact bodyPost_ret (v := .int .i64 96) (by simp [results, Tryz.results89, go_sem]) rfl ⟨(by first | (rw [HF]; done) | (rw [HF]; rfl)), HS.out.below⟩
     ·replace h5 := hid h5
      go_upto_region 6 with fail
      refine lnb HS.out rfl ?_
      refine lv 0 (.pointer (some ⟨k3, 1, none⟩)) rfl rfl (by intro x hx; go_simp; all_goals exact rfl) ?_
      simp only [sA, sB]
      refine lv 1 (.int .i64 192) rfl rfl (by intro x hx; have f0 := hx.load 2 1 rfl rfl; go_simp; all_goals exact rfl) ?_
      simp only [sA, sB]
      refine la 2 19 rfl rfl rfl rfl ?_
      simp only [sA, sB]
      clear HS
      refine ld fun W18 HS => ?_
      go_wp2
      have HF : partner4 x0 = 192#64 := by
        unfold partner4
        rw [cond_f h1.out, cond_f h2.out, cond_f h3.out, cond_f h4.out, cond_t h5.out]
      exact bodyPost_ret (v := .int .i64 192) (by simp [results, Tryz.results89, go_sem]) rfl ⟨(by first | (rw [HF]; done) | (rw [HF]; rfl)), HS.out.below⟩
    ·replace h4 := hid h4
     go_upto_region 8 with fail
     refine lnb HS.out rfl ?_
     refine lv 0 (.pointer (some ⟨k2, 0, none⟩)) rfl rfl (by intro x hx; go_simp; all_goals exact rfl) ?_
     simp only [sA, sB]
     refine lv 1 (.int .i64 48) rfl rfl (by intro x hx; have f0 := hx.load 1 0 rfl rfl; go_simp; all_goals exact rfl) ?_
     simp only [sA, sB]
     refine la 2 25 rfl rfl rfl rfl ?_
     simp only [sA, sB]
     clear HS
     refine ld fun W13 HS => ?_
     go_wp2
     have HF : partner4 x0 = 48#64 := by
       unfold partner4
       rw [cond_f h1.out, cond_f h2.out, cond_f h3.out, cond_t h4.out]
     exact bodyPost_ret (v := .int .i64 48) (by simp [results, Tryz.results89, go_sem]) rfl ⟨(by first | (rw [HF]; done) | (rw [HF]; rfl)), HS.out.below⟩
   ·replace h3 := hid h3
    go_upto_region 6 with fail
    refine lnb HS.out rfl ?_
    refine lv 0 (.pointer (some ⟨k2, 1, none⟩)) rfl rfl (by intro x hx; go_simp; all_goals exact rfl) ?_
    simp only [sA, sB]
    refine lv 1 (.int .i64 176) rfl rfl (by intro x hx; have f0 := hx.load 1 1 rfl rfl; go_simp; all_goals exact rfl) ?_
    simp only [sA, sB]
    refine la 2 19 rfl rfl rfl rfl ?_
    simp only [sA, sB]
    clear HS
    refine ld fun W12 HS => ?_
    go_wp2
    have HF : partner4 x0 = 176#64 := by
      unfold partner4
      rw [cond_f h1.out, cond_f h2.out, cond_t h3.out]
    exact bodyPost_ret (v := .int .i64 176) (by simp [results, Tryz.results89, go_sem]) rfl ⟨(by first | (rw [HF]; done) | (rw [HF]; rfl)), HS.out.below⟩
  ·replace h2 := hid h2
   go_upto_region 8 with fail
   refine lnb HS.out rfl ?_
   refine lv 0 (.pointer (some ⟨k1, 0, none⟩)) rfl rfl (by intro x hx; go_simp; all_goals exact rfl) ?_
   simp only [sA, sB]
   refine lv 1 (.int .i64 32) rfl rfl (by intro x hx; have f0 := hx.load 0 0 rfl rfl; go_simp; all_goals exact rfl) ?_
   simp only [sA, sB]
   refine la 2 25 rfl rfl rfl rfl ?_
   simp only [sA, sB]
   clear HS
   refine ld fun W7 HS => ?_
   go_wp2
   have HF : partner4 x0 = 32#64 := by
     unfold partner4
     rw [cond_f h1.out, cond_t h2.out]
   exact bodyPost_ret (v := .int .i64 32) (by simp [results, Tryz.results89, go_sem]) rfl ⟨(by first | (rw [HF]; done) | (rw [HF]; rfl)), HS.out.below⟩
 ·replace h1 := hid h1
  go_upto_region 6 with fail
  refine lnb HS.out rfl ?_
  refine lv 0 (.pointer (some ⟨k1, 1, none⟩)) rfl rfl (by intro x hx; go_simp; all_goals exact rfl) ?_
  simp only [sA, sB]
  refine lv 1 (.int .i64 160) rfl rfl (by intro x hx; have f0 := hx.load 0 1 rfl rfl; go_simp; all_goals exact rfl) ?_
  simp only [sA, sB]
  refine la 2 19 rfl rfl rfl rfl ?_
  simp only [sA, sB]
  clear HS
  refine ld fun W6 HS => ?_
  go_wp2
  have HF : partner4 x0 = 160#64 := by
    unfold partner4
    rw [cond_t h1.out]
  exact bodyPost_ret (v := .int .i64 160) (by simp [results, Tryz.results89, go_sem]) rfl ⟨(by first | (rw [HF]; done) | (rw [HF]; rfl)), HS.out.below⟩
theorem scalar_other_any (x0 : BitVec 64)   (w : World) :
  Calls Tryz.prog 38 #[.int .i64 (ti (x0))] w fun e w' => e = .returned (.int .i64 (ti ((partner5 x0)))) ∧ Below w.heap.size w w' := by
 go_enter Tryz.func38, Tryz.ntmps38
 have HS : Hid (St w [] _) := hid (st_nil w)
 go_upto_region 1 with fail
 refine lnb HS.out rfl ?_
 refine lm 0 0 rfl rfl rfl rfl ?_
 simp only [sA, sB]
 refine lv 1 (.agg #[.int .i64 16, .int .i64 80]) rfl rfl (by intro x hx; go_simp; all_goals exact rfl) ?_
 simp only [sA, sB]
 refine lv 2 (.agg #[.int .i64 32, .int .i64 176]) rfl rfl (by intro x hx; go_simp; all_goals exact rfl) ?_
 simp only [sA, sB]
 refine lv 3 (.agg #[.int .i64 48, .int .i64 160]) rfl rfl (by intro x hx; go_simp; all_goals exact rfl) ?_
 simp only [sA, sB]
 refine lv 4 (.agg #[.int .i64 96, .int .i64 208]) rfl rfl (by intro x hx; go_simp; all_goals exact rfl) ?_
 simp only [sA, sB]
 refine lv 5 (.agg #[.int .i64 112, .int .i64 192]) rfl rfl (by intro x hx; go_simp; all_goals exact rfl) ?_
 simp only [sA, sB]
 refine lin_new (i := 6) rfl rfl (by rfl) [.int .i64 16, .int .i64 80, .int .i64 32, .int .i64 176, .int .i64 48, .int .i64 160, .int .i64 96, .int .i64 208, .int .i64 112, .int .i64 192] 112 (fun k => .slice (some ⟨k, 0, none⟩) 5 5) [some (.int .i64 16), some (.int .i64 80), some (.int .i64 32), some (.int .i64 176), some (.int .i64 48), some (.int .i64 160), some (.int .i64 96), some (.int .i64 208), some (.int .i64 112), some (.int .i64 192)] (lessC_refl _) (by intro x hx; go_simp; all_goals exact rfl) (fun k1 => ?_)
 simp only [sA, sB, sD]
 refine lc 7 89 #[.int .i64 (ti (x0)), .slice (some ⟨k1, 0, none⟩) 5 5] (.int .i64 (ti (partner5 x0))) rfl rfl (by intro x hx; exact partner5_any x0 k1 _ (hx.okat 0 rfl)) ?_
 simp only [sA, sB]
 refine la 8 10 rfl rfl rfl rfl ?_
 simp only [sA, sB]
 clear HS
 refine ld fun W1 HS => ?_
 go_wp2
 exact bodyPost_ret (v := .int .i64 (ti (partner5 x0))) (by simp [results, Tryz.results38, go_sem]) rfl ⟨rfl, HS.out.below⟩
theorem scalar_turned_any (x0 : BitVec 64)   (w : World) :
  Calls Tryz.prog 42 #[.int .i64 (ti (x0))] w fun e w' => e = .returned (.int .i64 (ti ((partner4 x0)))) ∧ Below w.heap.size w w' := by
 go_enter Tryz.func42, Tryz.ntmps42
 have HS : Hid (St w [] _) := hid (st_nil w)
 go_upto_region 1 with fail
 refine lnb HS.out rfl ?_
 refine lm 0 0 rfl rfl rfl rfl ?_
 simp only [sA, sB]
 refine lv 1 (.agg #[.int .i64 32, .int .i64 160]) rfl rfl (by intro x hx; go_simp; all_goals exact rfl) ?_
 simp only [sA, sB]
 refine lv 2 (.agg #[.int .i64 48, .int .i64 176]) rfl rfl (by intro x hx; go_simp; all_goals exact rfl) ?_
 simp only [sA, sB]
 refine lv 3 (.agg #[.int .i64 96, .int .i64 192]) rfl rfl (by intro x hx; go_simp; all_goals exact rfl) ?_
 simp only [sA, sB]
 refine lv 4 (.agg #[.int .i64 112, .int .i64 208]) rfl rfl (by intro x hx; go_simp; all_goals exact rfl) ?_
 simp only [sA, sB]
 refine lin_new (i := 5) rfl rfl (by rfl) [.int .i64 32, .int .i64 160, .int .i64 48, .int .i64 176, .int .i64 96, .int .i64 192, .int .i64 112, .int .i64 208] 112 (fun k => .slice (some ⟨k, 0, none⟩) 4 4) [some (.int .i64 32), some (.int .i64 160), some (.int .i64 48), some (.int .i64 176), some (.int .i64 96), some (.int .i64 192), some (.int .i64 112), some (.int .i64 208)] (lessC_refl _) (by intro x hx; go_simp; all_goals exact rfl) (fun k1 => ?_)
 simp only [sA, sB, sD]
 refine lc 6 89 #[.int .i64 (ti (x0)), .slice (some ⟨k1, 0, none⟩) 4 4] (.int .i64 (ti (partner4 x0))) rfl rfl (by intro x hx; exact partner4_any x0 k1 _ (hx.okat 0 rfl)) ?_
 simp only [sA, sB]
 refine la 7 9 rfl rfl rfl rfl ?_
 simp only [sA, sB]
 clear HS
 refine ld fun W1 HS => ?_
 go_wp2
 exact bodyPost_ret (v := .int .i64 (ti (partner4 x0))) (by simp [results, Tryz.results42, go_sem]) rfl ⟨rfl, HS.out.below⟩
end Go.Proofs.YtmcapfbkedfdkaaGreatDoor.Sp
