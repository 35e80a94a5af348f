/-
  The contract of Alu.
-/
import Derived.Deep.DeepCutAuto
import Derived.Test.YtmcapfbkedfdkaaGreatDoorScE
namespace Go.Proofs.YtmcapfbkedfdkaaGreatDoor.Sp
open Go.RowKit Go.Proofs.YtmcapfbkedfdkaaGreatDoor.Num Go.Proofs.YtmcapfbkedfdkaaGreatDoor.Up
def scalar_narrow (x0 : BitVec 64) (x1 : Sc) (x2 : Sc)  : Sc :=
 bif (scalar_only x0 false x1 x2).2 then (Sc.mk (P.mk ((scalar_only x0 false x1 x2).1) 0#64) (P.mk ((scalar_only x0 false x1 x2).1) ((scalar_only x0 false x1 x2).1)) (P.mk ((scalar_only x0 false x1 x2).1) ((scalar_only x0 false x1 x2).1))) else (bif (x0 == 192#64) then (bif geU x1.u.hi 2147483648#64 then (scalar_Low scalar_All) else (scalar_Low ((scalar_Norm (scalar_result 112#64 32#64 x1 x2)).1))) else (scalar_Low ((scalar_Norm (scalar_result x0 32#64 x1 x2)).1)))
set_option maxRecDepth 100000 in
set_option maxHeartbeats 1000000 in
theorem scalar_narrow_any (x0 : BitVec 64) (x1 : Sc) (x2 : Sc)   (w : World) (hT : Tn.Tab w) :
   Calls Tryz.prog 25 #[.int .i64 (ti (x0)), vS x1, vS x2] w fun e w' => e = .returned (vS (scalar_narrow x0 x1 x2)) ∧ Below w.heap.size w w' := by
 have HT := hid hT
 clear hT
 simp only [vS]
 go_enter Tryz.func25, Tryz.ntmps25
 have HS : Hid (St w [⟨w.heap.size, [some (.int .u64 (tn (x1.t.lo))), some (.int .u64 (tn (x1.t.hi))), some (.int .u64 (tn (x1.u.lo))), some (.int .u64 (tn (x1.u.hi))), some (.int .i64 (ti (x1.s.lo))), some (.int .i64 (ti (x1.s.hi)))], 31⟩, ⟨w.heap.size + 1, [some (.int .u64 (tn (x2.t.lo))), some (.int .u64 (tn (x2.t.hi))), some (.int .u64 (tn (x2.u.lo))), some (.int .u64 (tn (x2.u.hi))), some (.int .i64 (ti (x2.s.lo))), some (.int .i64 (ti (x2.s.hi)))], 31⟩, ⟨w.heap.size + 2, [some (.int .u64 0), some (.int .u64 0), some (.int .u64 0), some (.int .u64 0), some (.int .i64 0), some (.int .i64 0)], 31⟩] _) := hid ((((st_nil w).alloc (k := w.heap.size) rfl [.int .u64 (tn (x1.t.lo)), .int .u64 (tn (x1.t.hi)), .int .u64 (tn (x1.u.lo)), .int .u64 (tn (x1.u.hi)), .int .i64 (ti (x1.s.lo)), .int .i64 (ti (x1.s.hi))] 31).alloc (k := w.heap.size + 1) (by simp) [.int .u64 (tn (x2.t.lo)), .int .u64 (tn (x2.t.hi)), .int .u64 (tn (x2.u.lo)), .int .u64 (tn (x2.u.hi)), .int .i64 (ti (x2.s.lo)), .int .i64 (ti (x2.s.hi))] 31).alloc (k := w.heap.size + 2) (by simp) [.int .u64 0, .int .u64 0, .int .u64 0, .int .u64 0, .int .i64 0, .int .i64 0] 31)
 go_upto_region 1 with fail
 refine lnb HS.out rfl ?_
 refine lm 0 0 rfl rfl rfl rfl ?_
 simp only [sA, sB]
 refine lv 1 (vS x1) rfl rfl (by intro x hx; obtain ⟨f0, f1, f2, f3, f4, f5⟩ := hx.six 0 0 rfl rfl; go_simp; all_goals exact rfl) ?_
 simp only [sA, sB, vS]
 refine lv 2 (vS x2) rfl rfl (by intro x hx; obtain ⟨f0, f1, f2, f3, f4, f5⟩ := hx.six 1 0 rfl rfl; go_simp; all_goals exact rfl) ?_
 simp only [sA, sB, vS]
 refine lc 3 22 #[.int .i64 (ti (x0)), .bool false, vS x1, vS x2] (.tuple #[.int .u64 (tn ((scalar_only x0 false x1 x2).1)), .bool ((scalar_only x0 false x1 x2).2)]) rfl rfl (by intro x hx; exact scalar_only_any x0 false x1 x2 _) ?_
 simp only [sA, sB]
 refine lm 4 13 rfl rfl rfl rfl ?_
 simp only [sA, sB]
 refine lv 5 (.int .u64 (tn ((scalar_only x0 false x1 x2).1))) rfl rfl (by intro x hx; go_simp; all_goals exact rfl) ?_
 simp only [sA, sB]
 refine lv 6 (.bool ((scalar_only x0 false x1 x2).2)) rfl rfl (by intro x hx; go_simp; all_goals exact rfl) ?_
 simp only [sA, sB]
 refine la 7 14 rfl rfl rfl rfl ?_
 simp only [sA, sB]
 refine la 8 15 rfl rfl rfl rfl ?_
 simp only [sA, sB]
 clear HS
 refine ld fun W1 HS => ?_
 go_upto_region 2 with fail
 refine lnb HS.out rfl ?_
 refine lm 0 8 rfl rfl rfl rfl ?_
 simp only [sA, sB]
 clear HS
 refine ld fun W2 HS => ?_
 cases h1 : ((scalar_only x0 false x1 x2).2)
 ·replace h1 := hid h1
  go_upto_region 4 with fail
  refine lnb HS.out rfl ?_
  refine lm 0 0 rfl rfl rfl rfl ?_
  simp only [sA, sB]
  refine lv 1 (.bool ((x0 == 192#64))) rfl rfl (by intro x hx; go_simp; (first | done | exact eqIT x0 192#64 | exact congrArg _ (eqIT x0 192#64) | (rw [eqIT x0 192#64]; done) | (rw [eqIT x0 192#64]; rfl))) ?_
  simp only [sA, sB]
  clear HS
  refine ld fun W3 HS => ?_
  cases h2 : ((x0 == 192#64))
  ·replace h2 := hid h2
   go_upto_region 8 with fail
   refine lnb HS.out rfl ?_
   refine lm 0 0 rfl rfl rfl rfl ?_
   simp only [sA, sB]
   refine lv 1 (vS x1) rfl rfl (by intro x hx; obtain ⟨f0, f1, f2, f3, f4, f5⟩ := hx.six 0 0 rfl rfl; go_simp; all_goals exact rfl) ?_
   simp only [sA, sB, vS]
   refine lv 2 (vS x2) rfl rfl (by intro x hx; obtain ⟨f0, f1, f2, f3, f4, f5⟩ := hx.six 1 0 rfl rfl; go_simp; all_goals exact rfl) ?_
   simp only [sA, sB, vS]
   refine lc 3 24 #[.int .i64 (ti (x0)), .int .u64 (tn (32#64)), vS x1, vS x2] (vS (scalar_result x0 32#64 x1 x2)) rfl rfl (by intro x hx; exact scalar_result_any x0 32#64 x1 x2 rfl _ (HT.out.up hx.below)) ?_
   simp only [sA, sB, vS]
   refine lc 4 23 #[vS (scalar_result x0 32#64 x1 x2)] (vS ((scalar_Norm (scalar_result x0 32#64 x1 x2)).1)) rfl rfl (by intro x hx; exact scalar_settled_any (scalar_result x0 32#64 x1 x2) _) ?_
   simp only [sA, sB, vS]
   refine lc 5 26 #[vS ((scalar_Norm (scalar_result x0 32#64 x1 x2)).1)] (vS (scalar_Low ((scalar_Norm (scalar_result x0 32#64 x1 x2)).1))) rfl rfl (by intro x hx; exact scalar_Low_any ((scalar_Norm (scalar_result x0 32#64 x1 x2)).1) _) ?_
   simp only [sA, sB, vS]
   refine ls 6 2 0 (cS (scalar_Low ((scalar_Norm (scalar_result x0 32#64 x1 x2)).1))) rfl rfl rfl (by intro x hx; obtain ⟨⟨_, z0, q0⟩, ⟨_, z1, q1⟩, ⟨_, z2, q2⟩, ⟨_, z3, q3⟩, ⟨_, z4, q4⟩, ⟨_, z5, q5⟩⟩ := hx.at6 2 0 rfl; go_simp; all_goals rfl) ?_
   simp only [Blk.putC, setM, cS, sA, sB]
   clear HS
   refine ld fun W4 HS => ?_
   go_wp2
   obtain ⟨r0, r1, r2, r3, r4, r5⟩ := HS.out.six 2 0 rfl rfl
   have HF : scalar_narrow x0 x1 x2 = scalar_Low ((scalar_Norm (scalar_result x0 32#64 x1 x2)).1) := by
     unfold scalar_narrow
     rw [cond_f h1.out, cond_f h2.out]
   exact bodyPost_ret (v := vS (scalar_Low ((scalar_Norm (scalar_result x0 32#64 x1 x2)).1))) (by simp [results, Tryz.results25, go_sem, r0, r1, r2, r3, r4, r5, vS]) rfl ⟨(by first | (rw [HF]; done) | (rw [HF]; rfl)), HS.out.below⟩
  ·replace h2 := hid h2
   go_upto_region 5 with fail
   refine lnb HS.out rfl ?_
   refine lv 0 (.pointer (some ⟨w.heap.size, 2, none⟩)) rfl rfl (by intro x hx; go_simp; all_goals exact rfl) ?_
   simp only [sA, sB]
   refine lv 1 (.pointer (some ⟨w.heap.size, 3, none⟩)) rfl rfl (by intro x hx; go_simp; all_goals exact rfl) ?_
   simp only [sA, sB]
   refine lv 2 (.int .u64 (tn (x1.u.hi))) rfl rfl (by intro x hx; have f0 := hx.load 0 3 rfl rfl; go_simp; all_goals exact rfl) ?_
   simp only [sA, sB]
   refine lv 3 (.bool (geU x1.u.hi 2147483648#64)) rfl rfl (by intro x hx; go_simp; (first | done | exact geUT x1.u.hi 2147483648#64 | exact congrArg _ (geUT x1.u.hi 2147483648#64) | (rw [geUT x1.u.hi 2147483648#64]; done) | (rw [geUT x1.u.hi 2147483648#64]; rfl))) ?_
   simp only [sA, sB]
   clear HS
   refine ld fun W4 HS => ?_
   cases h3 : (geU x1.u.hi 2147483648#64)
   ·replace h3 := hid h3
    go_upto_region 7 with fail
    refine lnb HS.out rfl ?_
    refine lv 0 (.int .i64 112) rfl rfl (by intro x hx; go_simp; all_goals exact rfl) ?_
    simp only [sB]
    clear HS
    refine ld fun W5 HS => ?_
    go_upto_region 8 with fail
    refine lnb HS.out rfl ?_
    refine lm 0 0 rfl rfl rfl rfl ?_
    simp only [sA, sB]
    refine lv 1 (vS x1) rfl rfl (by intro x hx; obtain ⟨f0, f1, f2, f3, f4, f5⟩ := hx.six 0 0 rfl rfl; go_simp; all_goals exact rfl) ?_
    simp only [sA, sB, vS]
    refine lv 2 (vS x2) rfl rfl (by intro x hx; obtain ⟨f0, f1, f2, f3, f4, f5⟩ := hx.six 1 0 rfl rfl; go_simp; all_goals exact rfl) ?_
    simp only [sA, sB, vS]
    refine lc 3 24 #[.int .i64 (ti (112#64)), .int .u64 (tn (32#64)), vS x1, vS x2] (vS (scalar_result 112#64 32#64 x1 x2)) rfl rfl (by intro x hx; exact scalar_result_any 112#64 32#64 x1 x2 rfl _ (HT.out.up hx.below)) ?_
    simp only [sA, sB, vS]
    refine lc 4 23 #[vS (scalar_result 112#64 32#64 x1 x2)] (vS ((scalar_Norm (scalar_result 112#64 32#64 x1 x2)).1)) rfl rfl (by intro x hx; exact scalar_settled_any (scalar_result 112#64 32#64 x1 x2) _) ?_
    simp only [sA, sB, vS]
    refine lc 5 26 #[vS ((scalar_Norm (scalar_result 112#64 32#64 x1 x2)).1)] (vS (scalar_Low ((scalar_Norm (scalar_result 112#64 32#64 x1 x2)).1))) rfl rfl (by intro x hx; exact scalar_Low_any ((scalar_Norm (scalar_result 112#64 32#64 x1 x2)).1) _) ?_
    simp only [sA, sB, vS]
    refine ls 6 2 0 (cS (scalar_Low ((scalar_Norm (scalar_result 112#64 32#64 x1 x2)).1))) rfl rfl rfl (by intro x hx; obtain ⟨⟨_, z0, q0⟩, ⟨_, z1, q1⟩, ⟨_, z2, q2⟩, ⟨_, z3, q3⟩, ⟨_, z4, q4⟩, ⟨_, z5, q5⟩⟩ := hx.at6 2 0 rfl; go_simp; all_goals rfl) ?_
    simp only [Blk.putC, setM, cS, sA, sB]
    clear HS
    refine ld fun W6 HS => ?_
    go_wp2
    obtain ⟨r0, r1, r2, r3, r4, r5⟩ := HS.out.six 2 0 rfl rfl
    have HF : scalar_narrow x0 x1 x2 = scalar_Low ((scalar_Norm (scalar_result 112#64 32#64 x1 x2)).1) := by
      unfold scalar_narrow
      rw [cond_f h1.out, cond_t h2.out, cond_f h3.out]
    exact bodyPost_ret (v := vS (scalar_Low ((scalar_Norm (scalar_result 112#64 32#64 x1 x2)).1))) (by simp [results, Tryz.results25, go_sem, r0, r1, r2, r3, r4, r5, vS]) rfl ⟨(by first | (rw [HF]; done) | (rw [HF]; rfl)), HS.out.below⟩
   ·replace h3 := hid h3
    go_upto_region 6 with fail
    refine lnb HS.out rfl ?_
    refine lc 0 9 #[] (vS scalar_All) rfl rfl (by intro x hx; exact scalar_All_any _) ?_
    simp only [sA, sB, vS]
    refine lc 1 26 #[vS scalar_All] (vS (scalar_Low scalar_All)) rfl rfl (by intro x hx; exact scalar_Low_any scalar_All _) ?_
    simp only [sA, sB, vS]
    refine ls 2 2 0 (cS (scalar_Low scalar_All)) rfl rfl rfl (by intro x hx; obtain ⟨⟨_, z0, q0⟩, ⟨_, z1, q1⟩, ⟨_, z2, q2⟩, ⟨_, z3, q3⟩, ⟨_, z4, q4⟩, ⟨_, z5, q5⟩⟩ := hx.at6 2 0 rfl; go_simp; all_goals rfl) ?_
    simp only [Blk.putC, setM, cS, sA, sB]
    clear HS
    refine ld fun W5 HS => ?_
    go_wp2
    obtain ⟨r0, r1, r2, r3, r4, r5⟩ := HS.out.six 2 0 rfl rfl
    have HF : scalar_narrow x0 x1 x2 = scalar_Low scalar_All := by
      unfold scalar_narrow
      rw [cond_f h1.out, cond_t h2.out, cond_t h3.out]
    exact bodyPost_ret (v := vS (scalar_Low scalar_All)) (by simp [results, Tryz.results25, go_sem, r0, r1, r2, r3, r4, r5, vS]) rfl ⟨(by first | (rw [HF]; done) | (rw [HF]; rfl)), HS.out.below⟩
 ·replace h1 := hid h1
  go_upto_region 3 with fail
  refine lnb HS.out rfl ?_
  refine lm 0 7 rfl rfl rfl rfl ?_
  simp only [sA, sB]
  refine lc 1 7 #[.int .u64 (tn ((scalar_only x0 false x1 x2).1))] (vS (Sc.mk (P.mk ((scalar_only x0 false x1 x2).1) 0#64) (P.mk ((scalar_only x0 false x1 x2).1) ((scalar_only x0 false x1 x2).1)) (P.mk ((scalar_only x0 false x1 x2).1) ((scalar_only x0 false x1 x2).1)))) rfl rfl (by intro x hx; exact scalar_Of_any ((scalar_only x0 false x1 x2).1) _) ?_
  simp only [sA, sB, vS]
  refine ls 2 2 0 (cS (Sc.mk (P.mk ((scalar_only x0 false x1 x2).1) 0#64) (P.mk ((scalar_only x0 false x1 x2).1) ((scalar_only x0 false x1 x2).1)) (P.mk ((scalar_only x0 false x1 x2).1) ((scalar_only x0 false x1 x2).1)))) rfl rfl rfl (by intro x hx; obtain ⟨⟨_, z0, q0⟩, ⟨_, z1, q1⟩, ⟨_, z2, q2⟩, ⟨_, z3, q3⟩, ⟨_, z4, q4⟩, ⟨_, z5, q5⟩⟩ := hx.at6 2 0 rfl; go_simp; all_goals rfl) ?_
  simp only [Blk.putC, setM, cS, sA, sB]
  clear HS
  refine ld fun W3 HS => ?_
  go_wp2
  obtain ⟨r0, r1, r2, r3, r4, r5⟩ := HS.out.six 2 0 rfl rfl
  have HF : scalar_narrow x0 x1 x2 = Sc.mk (P.mk ((scalar_only x0 false x1 x2).1) 0#64) (P.mk ((scalar_only x0 false x1 x2).1) ((scalar_only x0 false x1 x2).1)) (P.mk ((scalar_only x0 false x1 x2).1) ((scalar_only x0 false x1 x2).1)) := by
    unfold scalar_narrow
    rw [cond_t h1.out]
  exact bodyPost_ret (v := vS (Sc.mk (P.mk ((scalar_only x0 false x1 x2).1) 0#64) (P.mk ((scalar_only x0 false x1 x2).1) ((scalar_only x0 false x1 x2).1)) (P.mk ((scalar_only x0 false x1 x2).1) ((scalar_only x0 false x1 x2).1)))) (by simp [results, Tryz.results25, go_sem, r0, r1, r2, r3, r4, r5, vS]) rfl ⟨(by first | (rw [HF]; done) | (rw [HF]; rfl)), HS.out.below⟩
def scalar_Alu (x0 : BitVec 64) (x1 : Bool) (x2 : Sc) (x3 : Sc)  : Sc :=
 bif (scalar_only x0 x1 x2 x3).2 then (Sc.mk (P.mk ((scalar_only x0 x1 x2 x3).1) 0#64) (P.mk ((scalar_only x0 x1 x2 x3).1) ((scalar_only x0 x1 x2 x3).1)) (P.mk ((scalar_only x0 x1 x2 x3).1) ((scalar_only x0 x1 x2 x3).1))) else (bif x1 then ((scalar_Norm (scalar_result x0 64#64 x2 x3)).1) else (scalar_narrow x0 (scalar_Low x2) (scalar_Low x3)))
set_option maxRecDepth 100000 in
set_option maxHeartbeats 1000000 in
theorem scalar_Alu_any (x0 : BitVec 64) (x1 : Bool) (x2 : Sc) (x3 : Sc)   (w : World) (hT : Tn.Tab w) :
   Calls Tryz.prog 8 #[.int .i64 (ti (x0)), .bool (x1), vS x2, vS x3] w fun e w' => e = .returned (vS (scalar_Alu x0 x1 x2 x3)) ∧ Below w.heap.size w w' := by
 have HT := hid hT
 clear hT
 simp only [vS]
 go_enter Tryz.func8, Tryz.ntmps8
 have HS : Hid (St w [⟨w.heap.size, [some (.int .u64 (tn (x2.t.lo))), some (.int .u64 (tn (x2.t.hi))), some (.int .u64 (tn (x2.u.lo))), some (.int .u64 (tn (x2.u.hi))), some (.int .i64 (ti (x2.s.lo))), some (.int .i64 (ti (x2.s.hi)))], 31⟩, ⟨w.heap.size + 1, [some (.int .u64 (tn (x3.t.lo))), some (.int .u64 (tn (x3.t.hi))), some (.int .u64 (tn (x3.u.lo))), some (.int .u64 (tn (x3.u.hi))), some (.int .i64 (ti (x3.s.lo))), some (.int .i64 (ti (x3.s.hi)))], 31⟩, ⟨w.heap.size + 2, [some (.int .u64 0), some (.int .u64 0), some (.int .u64 0), some (.int .u64 0), some (.int .i64 0), some (.int .i64 0)], 31⟩] _) := hid ((((st_nil w).alloc (k := w.heap.size) rfl [.int .u64 (tn (x2.t.lo)), .int .u64 (tn (x2.t.hi)), .int .u64 (tn (x2.u.lo)), .int .u64 (tn (x2.u.hi)), .int .i64 (ti (x2.s.lo)), .int .i64 (ti (x2.s.hi))] 31).alloc (k := w.heap.size + 1) (by simp) [.int .u64 (tn (x3.t.lo)), .int .u64 (tn (x3.t.hi)), .int .u64 (tn (x3.u.lo)), .int .u64 (tn (x3.u.hi)), .int .i64 (ti (x3.s.lo)), .int .i64 (ti (x3.s.hi))] 31).alloc (k := w.heap.size + 2) (by simp) [.int .u64 0, .int .u64 0, .int .u64 0, .int .u64 0, .int .i64 0, .int .i64 0] 31)
 go_upto_region 1 with fail
 refine lnb HS.out rfl ?_
 refine lm 0 0 rfl rfl rfl rfl ?_
 simp only [sA, sB]
 refine lm 1 1 rfl rfl rfl rfl ?_
 simp only [sA, sB]
 refine lv 2 (vS x2) rfl rfl (by intro x hx; obtain ⟨f0, f1, f2, f3, f4, f5⟩ := hx.six 0 0 rfl rfl; go_simp; all_goals exact rfl) ?_
 simp only [sA, sB, vS]
 refine lv 3 (vS x3) rfl rfl (by intro x hx; obtain ⟨f0, f1, f2, f3, f4, f5⟩ := hx.six 1 0 rfl rfl; go_simp; all_goals exact rfl) ?_
 simp only [sA, sB, vS]
 refine lc 4 22 #[.int .i64 (ti (x0)), .bool (x1), vS x2, vS x3] (.tuple #[.int .u64 (tn ((scalar_only x0 x1 x2 x3).1)), .bool ((scalar_only x0 x1 x2 x3).2)]) rfl rfl (by intro x hx; exact scalar_only_any x0 x1 x2 x3 _) ?_
 simp only [sA, sB]
 refine lm 5 16 rfl rfl rfl rfl ?_
 simp only [sA, sB]
 refine lv 6 (.int .u64 (tn ((scalar_only x0 x1 x2 x3).1))) rfl rfl (by intro x hx; go_simp; all_goals exact rfl) ?_
 simp only [sA, sB]
 refine lv 7 (.bool ((scalar_only x0 x1 x2 x3).2)) rfl rfl (by intro x hx; go_simp; all_goals exact rfl) ?_
 simp only [sA, sB]
 refine la 8 17 rfl rfl rfl rfl ?_
 simp only [sA, sB]
 refine la 9 18 rfl rfl rfl rfl ?_
 simp only [sA, sB]
 clear HS
 refine ld fun W1 HS => ?_
 go_upto_region 2 with fail
 refine lnb HS.out rfl ?_
 refine lm 0 10 rfl rfl rfl rfl ?_
 simp only [sA, sB]
 clear HS
 refine ld fun W2 HS => ?_
 cases h1 : ((scalar_only x0 x1 x2 x3).2)
 ·replace h1 := hid h1
  go_upto_region 4 with fail
  refine lnb HS.out rfl ?_
  refine lm 0 1 rfl rfl rfl rfl ?_
  simp only [sA, sB]
  clear HS
  refine ld fun W3 HS => ?_
  cases h2 : (x1)
  ·replace h2 := hid h2
   go_upto_region 6 with fail
   refine upb 7 (HS.out.drew.forget 2 0 6 rfl) rfl ?_
   simp only [Blk.dropC, noneM, sA, sB]
   refine tm 0 0 rfl rfl rfl rfl ?_
   simp only [sA, sB]
   refine tv 1 (vS x2) rfl rfl (by intro x hx; obtain ⟨f0, f1, f2, f3, f4, f5⟩ := hx.six 0 0 rfl rfl; go_simp; all_goals exact rfl) ?_
   simp only [sA, sB, vS]
   refine tc 2 26 #[vS x2] (vS (scalar_Low x2)) rfl rfl (by intro x hx; exact scalar_Low_any x2 _) ?_
   simp only [sA, sB, vS]
   refine tv 3 (vS x3) rfl rfl (by intro x hx; obtain ⟨f0, f1, f2, f3, f4, f5⟩ := hx.six 1 0 rfl rfl; go_simp; all_goals exact rfl) ?_
   simp only [sA, sB, vS]
   refine tc 4 26 #[vS x3] (vS (scalar_Low x3)) rfl rfl (by intro x hx; exact scalar_Low_any x3 _) ?_
   simp only [sA, sB, vS]
   refine tc 5 25 #[.int .i64 (ti (x0)), vS (scalar_Low x2), vS (scalar_Low x3)] (vS (scalar_narrow x0 (scalar_Low x2) (scalar_Low x3))) rfl rfl (by intro x hx; exact scalar_narrow_any x0 (scalar_Low x2) (scalar_Low x3) _ (HT.out.up hx.below)) ?_
   simp only [sA, sB, vS]
   refine ts 6 2 0 (cS (scalar_narrow x0 (scalar_Low x2) (scalar_Low x3))) rfl rfl rfl (by intro x hx; obtain ⟨⟨_, z0, q0⟩, ⟨_, z1, q1⟩, ⟨_, z2, q2⟩, ⟨_, z3, q3⟩, ⟨_, z4, q4⟩, ⟨_, z5, q5⟩⟩ := hx.at6 2 0 rfl; go_simp; all_goals rfl) ?_
   simp only [Blk.putC, setM, cS, sA, sB]
   clear HS
   refine td fun W4 HS => ?_
   go_wp2
   obtain ⟨r0, r1, r2, r3, r4, r5⟩ := HS.out.six 2 0 rfl rfl
   have HF : scalar_Alu x0 x1 x2 x3 = scalar_narrow x0 (scalar_Low x2) (scalar_Low x3) := by
     unfold scalar_Alu
     rw [cond_f h1.out, cond_f h2.out]
   exact bodyPost_ret (v := vS (scalar_narrow x0 (scalar_Low x2) (scalar_Low x3))) (by simp [results, Tryz.results8, go_sem, r0, r1, r2, r3, r4, r5, vS]) rfl ⟨(by first | (rw [HF]; done) | (rw [HF]; rfl)), HS.out.below⟩
  ·replace h2 := hid h2
   go_upto_region 5 with fail
   refine lnb HS.out rfl ?_
   refine lm 0 0 rfl rfl rfl rfl ?_
   simp only [sA, sB]
   refine lv 1 (vS x2) rfl rfl (by intro x hx; obtain ⟨f0, f1, f2, f3, f4, f5⟩ := hx.six 0 0 rfl rfl; go_simp; all_goals exact rfl) ?_
   simp only [sA, sB, vS]
   refine lv 2 (vS x3) rfl rfl (by intro x hx; obtain ⟨f0, f1, f2, f3, f4, f5⟩ := hx.six 1 0 rfl rfl; go_simp; all_goals exact rfl) ?_
   simp only [sA, sB, vS]
   refine lc 3 24 #[.int .i64 (ti (x0)), .int .u64 (tn (64#64)), vS x2, vS x3] (vS (scalar_result x0 64#64 x2 x3)) rfl rfl (by intro x hx; exact scalar_result_any x0 64#64 x2 x3 rfl _ (HT.out.up hx.below)) ?_
   simp only [sA, sB, vS]
   refine lc 4 23 #[vS (scalar_result x0 64#64 x2 x3)] (vS ((scalar_Norm (scalar_result x0 64#64 x2 x3)).1)) rfl rfl (by intro x hx; exact scalar_settled_any (scalar_result x0 64#64 x2 x3) _) ?_
   simp only [sA, sB, vS]
   refine ls 5 2 0 (cS ((scalar_Norm (scalar_result x0 64#64 x2 x3)).1)) rfl rfl rfl (by intro x hx; obtain ⟨⟨_, z0, q0⟩, ⟨_, z1, q1⟩, ⟨_, z2, q2⟩, ⟨_, z3, q3⟩, ⟨_, z4, q4⟩, ⟨_, z5, q5⟩⟩ := hx.at6 2 0 rfl; go_simp; all_goals rfl) ?_
   simp only [Blk.putC, setM, cS, sA, sB]
   clear HS
   refine ld fun W4 HS => ?_
   go_wp2
   obtain ⟨r0, r1, r2, r3, r4, r5⟩ := HS.out.six 2 0 rfl rfl
   have HF : scalar_Alu x0 x1 x2 x3 = (scalar_Norm (scalar_result x0 64#64 x2 x3)).1 := by
     unfold scalar_Alu
     rw [cond_f h1.out, cond_t h2.out]
   exact bodyPost_ret (v := vS ((scalar_Norm (scalar_result x0 64#64 x2 x3)).1)) (by simp [results, Tryz.results8, go_sem, r0, r1, r2, r3, r4, r5, vS]) rfl ⟨(by first | (rw [HF]; done) | (rw [HF]; rfl)), HS.out.below⟩
 ·replace h1 := hid h1
  go_upto_region 3 with fail
  refine lnb HS.out rfl ?_
  refine lm 0 9 rfl rfl rfl rfl ?_
  simp only [sA, sB]
  refine lc 1 7 #[.int .u64 (tn ((scalar_only x0 x1 x2 x3).1))] (vS (Sc.mk (P.mk ((scalar_only x0 x1 x2 x3).1) 0#64) (P.mk ((scalar_only x0 x1 x2 x3).1) ((scalar_only x0 x1 x2 x3).1)) (P.mk ((scalar_only x0 x1 x2 x3).1) ((scalar_only x0 x1 x2 x3).1)))) rfl rfl (by intro x hx; exact scalar_Of_any ((scalar_only x0 x1 x2 x3).1) _) ?_
  simp only [sA, sB, vS]
  refine ls 2 2 0 (cS (Sc.mk (P.mk ((scalar_only x0 x1 x2 x3).1) 0#64) (P.mk ((scalar_only x0 x1 x2 x3).1) ((scalar_only x0 x1 x2 x3).1)) (P.mk ((scalar_only x0 x1 x2 x3).1) ((scalar_only x0 x1 x2 x3).1)))) rfl rfl rfl (by intro x hx; obtain ⟨⟨_, z0, q0⟩, ⟨_, z1, q1⟩, ⟨_, z2, q2⟩, ⟨_, z3, q3⟩, ⟨_, z4, q4⟩, ⟨_, z5, q5⟩⟩ := hx.at6 2 0 rfl; go_simp; all_goals rfl) ?_
  simp only [Blk.putC, setM, cS, sA, sB]
  clear HS
  refine ld fun W3 HS => ?_
  go_wp2
  obtain ⟨r0, r1, r2, r3, r4, r5⟩ := HS.out.six 2 0 rfl rfl
  have HF : scalar_Alu x0 x1 x2 x3 = Sc.mk (P.mk ((scalar_only x0 x1 x2 x3).1) 0#64) (P.mk ((scalar_only x0 x1 x2 x3).1) ((scalar_only x0 x1 x2 x3).1)) (P.mk ((scalar_only x0 x1 x2 x3).1) ((scalar_only x0 x1 x2 x3).1)) := by
    unfold scalar_Alu
    rw [cond_t h1.out]
  exact bodyPost_ret (v := vS (Sc.mk (P.mk ((scalar_only x0 x1 x2 x3).1) 0#64) (P.mk ((scalar_only x0 x1 x2 x3).1) ((scalar_only x0 x1 x2 x3).1)) (P.mk ((scalar_only x0 x1 x2 x3).1) ((scalar_only x0 x1 x2 x3).1)))) (by simp [results, Tryz.results8, go_sem, r0, r1, r2, r3, r4, r5, vS]) rfl ⟨(by first | (rw [HF]; done) | (rw [HF]; rfl)), HS.out.below⟩
end Go.Proofs.YtmcapfbkedfdkaaGreatDoor.Sp
