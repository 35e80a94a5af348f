/-
  The contract of Branch.
-/
import Derived.Deep.DeepCutAuto
import Derived.Test.YtmcapfbkedfdkaaGreatDoorScH
namespace Go.Proofs.YtmcapfbkedfdkaaGreatDoor.Sp
open Go.RowKit Go.Proofs.YtmcapfbkedfdkaaGreatDoor.Num Go.Proofs.YtmcapfbkedfdkaaGreatDoor.Up
def scalar_Branch (x0 : BitVec 64) (x1 : Bool) (x2 : Sc) (x3 : Sc) (x4 : Bool)  : Sc × Sc × Bool :=
 bif (!(jmpIs (ti x0))) then ((x2, x3, true)) else (bif single2 x2 x3 then (bif ((jmpR x0 x1 x2.t.lo x3.t.lo) != x4) then ((scalar_All, scalar_All, false)) else ((x2, x3, true))) else (bif (!x1) then (bif (!(scalar_short x0 x2.u.hi x3.u.hi)) then ((x2, x3, true)) else (bif (!((scalar_bounded x0 x2 x3 x4).2.2)) then ((scalar_All, scalar_All, false)) else (bif (!((scalar_Norm ((scalar_bounded x0 x2 x3 x4).1)).2)) then ((scalar_All, scalar_All, false)) else (bif (!((scalar_Norm ((scalar_bounded x0 x2 x3 x4).2.1)).2)) then ((scalar_All, scalar_All, false)) else (((scalar_Norm ((scalar_bounded x0 x2 x3 x4).1)).1, (scalar_Norm ((scalar_bounded x0 x2 x3 x4).2.1)).1, true)))))) else (bif (!((scalar_bounded x0 x2 x3 x4).2.2)) then ((scalar_All, scalar_All, false)) else (bif (!((scalar_Norm ((scalar_bounded x0 x2 x3 x4).1)).2)) then ((scalar_All, scalar_All, false)) else (bif (!((scalar_Norm ((scalar_bounded x0 x2 x3 x4).2.1)).2)) then ((scalar_All, scalar_All, false)) else (((scalar_Norm ((scalar_bounded x0 x2 x3 x4).1)).1, (scalar_Norm ((scalar_bounded x0 x2 x3 x4).2.1)).1, true)))))))
set_option maxRecDepth 100000 in
set_option maxHeartbeats 4000000 in
theorem scalar_Branch_any (x0 : BitVec 64) (x1 : Bool) (x2 : Sc) (x3 : Sc) (x4 : Bool)   (w : World) :
   Calls Tryz.prog 5 #[.int .i64 (ti (x0)), .bool (x1), vS x2, vS x3, .bool (x4)] w fun e w' => e = .returned (.tuple #[vS ((scalar_Branch x0 x1 x2 x3 x4).1), vS ((scalar_Branch x0 x1 x2 x3 x4).2.1), .bool ((scalar_Branch x0 x1 x2 x3 x4).2.2)]) ∧ Below w.heap.size w w' := by
 simp only [vS]
 go_enter Tryz.func5, Tryz.ntmps5
 have HS : Hid (St w [⟨w.heap.size, [some (.int .u64 (tn (x2.t.lo))), some (.int .u64 (tn (x2.t.hi))), some (.int .u64 (tn (x2.u.lo))), some (.int .u64 (tn (x2.u.hi))), some (.int .i64 (ti (x2.s.lo))), some (.int .i64 (ti (x2.s.hi)))], 31⟩, ⟨w.heap.size + 1, [some (.int .u64 (tn (x3.t.lo))), some (.int .u64 (tn (x3.t.hi))), some (.int .u64 (tn (x3.u.lo))), some (.int .u64 (tn (x3.u.hi))), some (.int .i64 (ti (x3.s.lo))), some (.int .i64 (ti (x3.s.hi)))], 31⟩, ⟨w.heap.size + 2, [some (.int .u64 0), some (.int .u64 0), some (.int .u64 0), some (.int .u64 0), some (.int .i64 0), some (.int .i64 0)], 31⟩, ⟨w.heap.size + 3, [some (.int .u64 0), some (.int .u64 0), some (.int .u64 0), some (.int .u64 0), some (.int .i64 0), some (.int .i64 0)], 31⟩] _) := hid (((((st_nil w).alloc (k := w.heap.size) rfl [.int .u64 (tn (x2.t.lo)), .int .u64 (tn (x2.t.hi)), .int .u64 (tn (x2.u.lo)), .int .u64 (tn (x2.u.hi)), .int .i64 (ti (x2.s.lo)), .int .i64 (ti (x2.s.hi))] 31).alloc (k := w.heap.size + 1) (by simp) [.int .u64 (tn (x3.t.lo)), .int .u64 (tn (x3.t.hi)), .int .u64 (tn (x3.u.lo)), .int .u64 (tn (x3.u.hi)), .int .i64 (ti (x3.s.lo)), .int .i64 (ti (x3.s.hi))] 31).alloc (k := w.heap.size + 2) (by simp) [.int .u64 0, .int .u64 0, .int .u64 0, .int .u64 0, .int .i64 0, .int .i64 0] 31).alloc (k := w.heap.size + 3) (by simp) [.int .u64 0, .int .u64 0, .int .u64 0, .int .u64 0, .int .i64 0, .int .i64 0] 31)
 go_upto_region 1 with fail
 refine lnb HS.out rfl ?_
 refine lm 0 0 rfl rfl rfl rfl ?_
 simp only [sA, sB]
 refine lm 1 1 rfl rfl rfl rfl ?_
 simp only [sA, sB]
 refine lv 2 (.pointer (some ⟨w.heap.size, 0, none⟩)) rfl rfl (by intro x hx; go_simp; all_goals exact rfl) ?_
 simp only [sA, sB]
 refine lv 3 (.pointer (some ⟨w.heap.size, 0, none⟩)) rfl rfl (by intro x hx; go_simp; all_goals exact rfl) ?_
 simp only [sA, sB]
 refine lv 4 (.int .u64 (tn (x2.t.lo))) rfl rfl (by intro x hx; have f0 := hx.load 0 0 rfl rfl; go_simp; all_goals exact rfl) ?_
 simp only [sA, sB]
 refine lv 5 (.pointer (some ⟨w.heap.size + 1, 0, none⟩)) rfl rfl (by intro x hx; go_simp; all_goals exact rfl) ?_
 simp only [sA, sB]
 refine lv 6 (.pointer (some ⟨w.heap.size + 1, 0, none⟩)) rfl rfl (by intro x hx; go_simp; all_goals exact rfl) ?_
 simp only [sA, sB]
 refine lv 7 (.int .u64 (tn (x3.t.lo))) rfl rfl (by intro x hx; have f0 := hx.load 1 0 rfl rfl; go_simp; all_goals exact rfl) ?_
 simp only [sA, sB]
 refine lc 8 13 #[.int .i64 (ti (x0)), .bool (x1), .int .u64 (tn (x2.t.lo)), .int .u64 (tn (x3.t.lo))] (.tuple #[.bool (jmpR x0 x1 x2.t.lo x3.t.lo), .bool (jmpIs (ti x0))]) rfl rfl (by intro x hx; exact wJump_any x0 x1 x2.t.lo x3.t.lo _) ?_
 simp only [sA, sB]
 refine lm 9 26 rfl rfl rfl rfl ?_
 simp only [sA, sB]
 refine lv 10 (.bool (jmpR x0 x1 x2.t.lo x3.t.lo)) rfl rfl (by intro x hx; go_simp; all_goals exact rfl) ?_
 simp only [sA, sB]
 refine lv 11 (.bool (jmpIs (ti x0))) rfl rfl (by intro x hx; go_simp; all_goals exact rfl) ?_
 simp only [sA, sB]
 refine la 12 27 rfl rfl rfl rfl ?_
 simp only [sA, sB]
 refine la 13 28 rfl rfl rfl rfl ?_
 simp only [sA, sB]
 clear HS
 refine ld fun W1 HS => ?_
 go_upto_region 2 with fail
 refine lnb HS.out rfl ?_
 refine lm 0 14 rfl rfl rfl rfl ?_
 simp only [sA, sB]
 refine lv 1 (.bool ((!(jmpIs (ti x0))))) rfl rfl (by intro x hx; go_simp; all_goals exact rfl) ?_
 simp only [sA, sB]
 refine la 2 31 rfl rfl rfl rfl ?_
 simp only [sA, sB]
 clear HS
 refine ld fun W2 HS => ?_
 cases h1 : ((!(jmpIs (ti x0))))
 ·replace h1 := hid h1
  go_upto_region 4 with fail
  refine lnb HS.out rfl ?_
  refine lv 0 (vS x2) rfl rfl (by intro x hx; obtain ⟨f0, f1, f2, f3, f4, f5⟩ := hx.six 0 0 rfl rfl; go_simp; all_goals exact rfl) ?_
  simp only [sA, sB, vS]
  refine lv 1 (vS x3) rfl rfl (by intro x hx; obtain ⟨f0, f1, f2, f3, f4, f5⟩ := hx.six 1 0 rfl rfl; go_simp; all_goals exact rfl) ?_
  simp only [sA, sB, vS]
  refine lin_new (i := 2) rfl rfl (by rfl) [.int .u64 (tn (x2.t.lo)), .int .u64 (tn (x2.t.hi)), .int .u64 (tn (x2.u.lo)), .int .u64 (tn (x2.u.hi)), .int .i64 (ti (x2.s.lo)), .int .i64 (ti (x2.s.hi)), .int .u64 (tn (x3.t.lo)), .int .u64 (tn (x3.t.hi)), .int .u64 (tn (x3.u.lo)), .int .u64 (tn (x3.u.hi)), .int .i64 (ti (x3.s.lo)), .int .i64 (ti (x3.s.hi))] 31 (fun k => .slice (some ⟨k, 0, none⟩) 2 2) [some (.int .u64 (tn (x2.t.lo))), some (.int .u64 (tn (x2.t.hi))), some (.int .u64 (tn (x2.u.lo))), some (.int .u64 (tn (x2.u.hi))), some (.int .i64 (ti (x2.s.lo))), some (.int .i64 (ti (x2.s.hi))), some (.int .u64 (tn (x3.t.lo))), some (.int .u64 (tn (x3.t.hi))), some (.int .u64 (tn (x3.u.lo))), some (.int .u64 (tn (x3.u.hi))), some (.int .i64 (ti (x3.s.lo))), some (.int .i64 (ti (x3.s.hi)))] (lessC_refl _) (by intro x hx; go_simp; all_goals exact rfl) (fun k1 => ?_)
  simp only [sA, sB, sC, sD]
  refine lc 3 14 #[.slice (some ⟨k1, 0, none⟩) 2 2] (.bool (single2 x2 x3)) rfl rfl (by intro x hx; exact single2_any k1 x2 x3 _ (hx.okat 4 rfl)) ?_
  simp only [sA, sB]
  refine la 4 38 rfl rfl rfl rfl ?_
  simp only [sA, sB]
  clear HS
  refine ld fun W3 HS => ?_
  cases h2 : (single2 x2 x3)
  ·replace h2 := hid h2
   go_upto_region 8 with fail
   refine lnb HS.out rfl ?_
   refine lm 0 1 rfl rfl rfl rfl ?_
   simp only [sA, sB]
   refine lv 1 (.bool ((!x1))) rfl rfl (by intro x hx; go_simp; all_goals exact rfl) ?_
   simp only [sA, sB]
   refine lm 2 50 rfl rfl rfl rfl ?_
   simp only [sA, sB]
   cases h3 : ((!x1))
   ·replace h3 := hid h3
    refine lin_no (i := 3) rfl rfl (by kernel_rfl) ?_
    simp only [sA, sB]
    refine lin_no (i := 4) rfl rfl (by kernel_rfl) ?_
    simp only [sA, sB]
    refine lin_no (i := 5) rfl rfl (by kernel_rfl) ?_
    simp only [sA, sB]
    refine lin_no (i := 6) rfl rfl (by kernel_rfl) ?_
    simp only [sA, sB]
    refine lin_no (i := 7) rfl rfl (by kernel_rfl) ?_
    simp only [sA, sB]
    refine lin_no (i := 8) rfl rfl (by kernel_rfl) ?_
    simp only [sA, sB]
    refine lin_no (i := 9) rfl rfl (by kernel_rfl) ?_
    simp only [sA, sB]
    refine lin_no (i := 10) rfl rfl (by kernel_rfl) ?_
    simp only [sA, sB]
    refine lin_no (i := 11) rfl rfl (by kernel_rfl) ?_
    simp only [sA, sB]
    refine lv 12 (.bool false) rfl rfl (by intro x hx; go_simp; all_goals exact rfl) ?_
    simp only [sA, sB]
    refine la 13 61 rfl rfl rfl rfl ?_
    simp only [sA, sB]
    clear HS
    refine ld fun W4 HS => ?_
    go_upto_region 10 with fail
    refine lnb HS.out rfl ?_
    refine lm 0 0 rfl rfl rfl rfl ?_
    simp only [sA, sB]
    refine lv 1 (vS x2) rfl rfl (by intro x hx; obtain ⟨f0, f1, f2, f3, f4, f5⟩ := hx.six 0 0 rfl rfl; go_simp; all_goals exact rfl) ?_
    simp only [sA, sB, vS]
    refine lv 2 (vS x3) rfl rfl (by intro x hx; obtain ⟨f0, f1, f2, f3, f4, f5⟩ := hx.six 1 0 rfl rfl; go_simp; all_goals exact rfl) ?_
    simp only [sA, sB, vS]
    refine lm 3 4 rfl rfl rfl rfl ?_
    simp only [sA, sB]
    refine lc 4 17 #[.int .i64 (ti (x0)), vS x2, vS x3, .bool (x4)] (.tuple #[vS ((scalar_bounded x0 x2 x3 x4).1), vS ((scalar_bounded x0 x2 x3 x4).2.1), .bool ((scalar_bounded x0 x2 x3 x4).2.2)]) rfl rfl (by intro x hx; exact scalar_bounded_any x0 x2 x3 x4 _) ?_
    simp only [sA, sB, vS]
    refine lm 5 69 rfl rfl rfl rfl ?_
    simp only [sA, sB]
    refine lv 6 (vS ((scalar_bounded x0 x2 x3 x4).1)) rfl rfl (by intro x hx; go_simp; all_goals exact rfl) ?_
    simp only [sA, sB, vS]
    refine lv 7 (vS ((scalar_bounded x0 x2 x3 x4).2.1)) rfl rfl (by intro x hx; go_simp; all_goals exact rfl) ?_
    simp only [sA, sB, vS]
    refine lv 8 (.bool ((scalar_bounded x0 x2 x3 x4).2.2)) rfl rfl (by intro x hx; go_simp; all_goals exact rfl) ?_
    simp only [sA, sB]
    refine ls 9 0 0 (cS ((scalar_bounded x0 x2 x3 x4).1)) rfl rfl rfl (by intro x hx; obtain ⟨⟨_, z0, q0⟩, ⟨_, z1, q1⟩, ⟨_, z2, q2⟩, ⟨_, z3, q3⟩, ⟨_, z4, q4⟩, ⟨_, z5, q5⟩⟩ := hx.at6 0 0 rfl; go_simp; all_goals rfl) ?_
    simp only [Blk.putC, setM, cS, sA, sB]
    refine ls 10 1 0 (cS ((scalar_bounded x0 x2 x3 x4).2.1)) rfl rfl rfl (by intro x hx; obtain ⟨⟨_, z0, q0⟩, ⟨_, z1, q1⟩, ⟨_, z2, q2⟩, ⟨_, z3, q3⟩, ⟨_, z4, q4⟩, ⟨_, z5, q5⟩⟩ := hx.at6 1 0 rfl; go_simp; all_goals rfl) ?_
    simp only [Blk.putC, setM, cS, sA, sB]
    refine la 11 72 rfl rfl rfl rfl ?_
    simp only [sA, sB]
    clear HS
    refine ld fun W5 HS => ?_
    go_upto_region 11 with fail
    refine lnb HS.out rfl ?_
    refine lm 0 14 rfl rfl rfl rfl ?_
    simp only [sA, sB]
    refine lv 1 (.bool ((!((scalar_bounded x0 x2 x3 x4).2.2)))) rfl rfl (by intro x hx; go_simp; all_goals exact rfl) ?_
    simp only [sA, sB]
    clear HS
    refine ld fun W6 HS => ?_
    cases h4 : ((!((scalar_bounded x0 x2 x3 x4).2.2)))
    ·replace h4 := hid h4
     go_upto_region 13 with fail
     refine lnb HS.out rfl ?_
     refine lv 0 (vS ((scalar_bounded x0 x2 x3 x4).1)) rfl rfl (by intro x hx; obtain ⟨f0, f1, f2, f3, f4, f5⟩ := hx.six 0 0 rfl rfl; go_simp; all_goals exact rfl) ?_
     simp only [sA, sB, vS]
     refine lc 1 18 #[vS ((scalar_bounded x0 x2 x3 x4).1)] (.tuple #[vS ((scalar_Norm ((scalar_bounded x0 x2 x3 x4).1)).1), .bool ((scalar_Norm ((scalar_bounded x0 x2 x3 x4).1)).2)]) rfl rfl (by intro x hx; exact scalar_Norm_any ((scalar_bounded x0 x2 x3 x4).1) _) ?_
     simp only [sA, sB, vS]
     refine lm 2 81 rfl rfl rfl rfl ?_
     simp only [sA, sB]
     refine lv 3 (vS ((scalar_Norm ((scalar_bounded x0 x2 x3 x4).1)).1)) rfl rfl (by intro x hx; go_simp; all_goals exact rfl) ?_
     simp only [sA, sB, vS]
     refine lv 4 (.bool ((scalar_Norm ((scalar_bounded x0 x2 x3 x4).1)).2)) rfl rfl (by intro x hx; go_simp; all_goals exact rfl) ?_
     simp only [sA, sB]
     refine ls 5 0 0 (cS ((scalar_Norm ((scalar_bounded x0 x2 x3 x4).1)).1)) rfl rfl rfl (by intro x hx; obtain ⟨⟨_, z0, q0⟩, ⟨_, z1, q1⟩, ⟨_, z2, q2⟩, ⟨_, z3, q3⟩, ⟨_, z4, q4⟩, ⟨_, z5, q5⟩⟩ := hx.at6 0 0 rfl; go_simp; all_goals rfl) ?_
     simp only [Blk.putC, setM, cS, sA, sB]
     refine la 6 83 rfl rfl rfl rfl ?_
     simp only [sA, sB]
     clear HS
     refine ld fun W7 HS => ?_
     go_upto_region 14 with fail
     refine lnb HS.out rfl ?_
     refine lv 0 (vS ((scalar_bounded x0 x2 x3 x4).2.1)) rfl rfl (by intro x hx; obtain ⟨f0, f1, f2, f3, f4, f5⟩ := hx.six 1 0 rfl rfl; go_simp; all_goals exact rfl) ?_
     simp only [sA, sB, vS]
     refine lc 1 18 #[vS ((scalar_bounded x0 x2 x3 x4).2.1)] (.tuple #[vS ((scalar_Norm ((scalar_bounded x0 x2 x3 x4).2.1)).1), .bool ((scalar_Norm ((scalar_bounded x0 x2 x3 x4).2.1)).2)]) rfl rfl (by intro x hx; exact scalar_Norm_any ((scalar_bounded x0 x2 x3 x4).2.1) _) ?_
     simp only [sA, sB, vS]
     refine lm 2 86 rfl rfl rfl rfl ?_
     simp only [sA, sB]
     refine lv 3 (vS ((scalar_Norm ((scalar_bounded x0 x2 x3 x4).2.1)).1)) rfl rfl (by intro x hx; go_simp; all_goals exact rfl) ?_
     simp only [sA, sB, vS]
     refine lv 4 (.bool ((scalar_Norm ((scalar_bounded x0 x2 x3 x4).2.1)).2)) rfl rfl (by intro x hx; go_simp; all_goals exact rfl) ?_
     simp only [sA, sB]
     refine ls 5 1 0 (cS ((scalar_Norm ((scalar_bounded x0 x2 x3 x4).2.1)).1)) rfl rfl rfl (by intro x hx; obtain ⟨⟨_, z0, q0⟩, ⟨_, z1, q1⟩, ⟨_, z2, q2⟩, ⟨_, z3, q3⟩, ⟨_, z4, q4⟩, ⟨_, z5, q5⟩⟩ := hx.at6 1 0 rfl; go_simp; all_goals rfl) ?_
     simp only [Blk.putC, setM, cS, sA, sB]
     refine la 6 88 rfl rfl rfl rfl ?_
     simp only [sA, sB]
     clear HS
     refine ld fun W8 HS => ?_
     go_upto_region 15 with fail
     refine lnb HS.out rfl ?_
     refine lm 0 15 rfl rfl rfl rfl ?_
     simp only [sA, sB]
     refine lv 1 (.bool ((!((scalar_Norm ((scalar_bounded x0 x2 x3 x4).1)).2)))) rfl rfl (by intro x hx; go_simp; all_goals exact rfl) ?_
     simp only [sA, sB]
     refine lm 2 90 rfl rfl rfl rfl ?_
     simp only [sA, sB]
     cases h5 : ((!((scalar_Norm ((scalar_bounded x0 x2 x3 x4).1)).2)))
     ·replace h5 := hid h5
      refine lv 3 (.bool ((scalar_Norm ((scalar_bounded x0 x2 x3 x4).2.1)).2)) rfl rfl (by intro x hx; go_simp; all_goals exact rfl) ?_
      simp only [sA, sB]
      refine lv 4 (.bool ((!((scalar_Norm ((scalar_bounded x0 x2 x3 x4).2.1)).2)))) rfl rfl (by intro x hx; go_simp; all_goals exact rfl) ?_
      simp only [sA, sB]
      refine lv 5 (.bool ((!((scalar_Norm ((scalar_bounded x0 x2 x3 x4).2.1)).2)))) rfl rfl (by intro x hx; go_simp; all_goals exact rfl) ?_
      simp only [sA, sB]
      clear HS
      refine ld fun W9 HS => ?_
      cases h6 : ((!((scalar_Norm ((scalar_bounded x0 x2 x3 x4).2.1)).2)))
      ·replace h6 := hid h6
       go_upto_region 17 with fail
       refine upb 5 (((HS.out.drew.forget 2 0 6 rfl).forget 3 0 6 rfl)) rfl ?_
       simp only [Blk.dropC, noneM, sA, sB]
       refine tv 0 (vS ((scalar_Norm ((scalar_bounded x0 x2 x3 x4).1)).1)) rfl rfl (by intro x hx; obtain ⟨f0, f1, f2, f3, f4, f5⟩ := hx.six 0 0 rfl rfl; go_simp; all_goals exact rfl) ?_
       simp only [sA, sB, vS]
       refine tv 1 (vS ((scalar_Norm ((scalar_bounded x0 x2 x3 x4).2.1)).1)) rfl rfl (by intro x hx; obtain ⟨f0, f1, f2, f3, f4, f5⟩ := hx.six 1 0 rfl rfl; go_simp; all_goals exact rfl) ?_
       simp only [sA, sB, vS]
       refine ts 2 2 0 (cS ((scalar_Norm ((scalar_bounded x0 x2 x3 x4).1)).1)) rfl rfl rfl (by intro x hx; obtain ⟨⟨_, z0, q0⟩, ⟨_, z1, q1⟩, ⟨_, z2, q2⟩, ⟨_, z3, q3⟩, ⟨_, z4, q4⟩, ⟨_, z5, q5⟩⟩ := hx.at6 2 0 rfl; go_simp; all_goals rfl) ?_
       simp only [Blk.putC, setM, cS, sA, sB]
       refine ts 3 3 0 (cS ((scalar_Norm ((scalar_bounded x0 x2 x3 x4).2.1)).1)) rfl rfl rfl (by intro x hx; obtain ⟨⟨_, z0, q0⟩, ⟨_, z1, q1⟩, ⟨_, z2, q2⟩, ⟨_, z3, q3⟩, ⟨_, z4, q4⟩, ⟨_, z5, q5⟩⟩ := hx.at6 3 0 rfl; go_simp; all_goals rfl) ?_
       simp only [Blk.putC, setM, cS, sA, sB]
       refine tv 4 (.bool true) rfl rfl (by intro x hx; go_simp; all_goals exact rfl) ?_
       simp only [sA, sB]
       clear HS
       refine td fun W10 HS => ?_
       go_wp2
       obtain ⟨r0, r1, r2, r3, r4, r5⟩ := HS.out.six 2 0 rfl rfl
       obtain ⟨r6, r7, r8, r9, r10, r11⟩ := HS.out.six 3 0 rfl rfl
       have HF : scalar_Branch x0 x1 x2 x3 x4 = ((scalar_Norm ((scalar_bounded x0 x2 x3 x4).1)).1, (scalar_Norm ((scalar_bounded x0 x2 x3 x4).2.1)).1, true) := by
         unfold scalar_Branch
         rw [cond_f h1.out, cond_f h2.out, cond_f h3.out, cond_f h4.out, cond_f h5.out, cond_f h6.out]
       exact bodyPost_ret (v := .tuple #[vS ((scalar_Norm ((scalar_bounded x0 x2 x3 x4).1)).1), vS ((scalar_Norm ((scalar_bounded x0 x2 x3 x4).2.1)).1), .bool true]) (by simp [results, Tryz.results5, go_sem, r0, r1, r2, r3, r4, r5, r6, r7, r8, r9, r10, r11, vS]) rfl ⟨(by first | (rw [HF]; done) | (rw [HF]; rfl)), HS.out.below⟩
      ·replace h6 := hid h6
       go_upto_region 16 with fail
       refine lnb HS.out rfl ?_
       refine lc 0 15 #[] (.tuple #[vS scalar_All, vS scalar_All, .bool false]) rfl rfl (by intro x hx; exact scalar_none_any _) ?_
       simp only [sA, sB, vS]
       refine lv 1 (vS scalar_All) rfl rfl (by intro x hx; go_simp; all_goals exact rfl) ?_
       simp only [sA, sB, vS]
       refine lv 2 (vS scalar_All) rfl rfl (by intro x hx; go_simp; all_goals exact rfl) ?_
       simp only [sA, sB, vS]
       refine lv 3 (.bool false) rfl rfl (by intro x hx; go_simp; all_goals exact rfl) ?_
       simp only [sA, sB]
       refine ls 4 2 0 (cS scalar_All) rfl rfl rfl (by intro x hx; obtain ⟨⟨_, z0, q0⟩, ⟨_, z1, q1⟩, ⟨_, z2, q2⟩, ⟨_, z3, q3⟩, ⟨_, z4, q4⟩, ⟨_, z5, q5⟩⟩ := hx.at6 2 0 rfl; go_simp; all_goals rfl) ?_
       simp only [Blk.putC, setM, cS, sA, sB]
       refine ls 5 3 0 (cS scalar_All) rfl rfl rfl (by intro x hx; obtain ⟨⟨_, z0, q0⟩, ⟨_, z1, q1⟩, ⟨_, z2, q2⟩, ⟨_, z3, q3⟩, ⟨_, z4, q4⟩, ⟨_, z5, q5⟩⟩ := hx.at6 3 0 rfl; go_simp; all_goals rfl) ?_
       simp only [Blk.putC, setM, cS, sA, sB]
       refine la 6 98 rfl rfl rfl rfl ?_
       simp only [sA, sB]
       clear HS
       refine ld fun W10 HS => ?_
       go_wp2
       obtain ⟨r0, r1, r2, r3, r4, r5⟩ := HS.out.six 2 0 rfl rfl
       obtain ⟨r6, r7, r8, r9, r10, r11⟩ := HS.out.six 3 0 rfl rfl
       have HF : scalar_Branch x0 x1 x2 x3 x4 = (scalar_All, scalar_All, false) := by
         unfold scalar_Branch
         rw [cond_f h1.out, cond_f h2.out, cond_f h3.out, cond_f h4.out, cond_f h5.out, cond_t h6.out]
       exact bodyPost_ret (v := .tuple #[vS scalar_All, vS scalar_All, .bool false]) (by simp [results, Tryz.results5, go_sem, r0, r1, r2, r3, r4, r5, r6, r7, r8, r9, r10, r11, vS]) rfl ⟨(by first | (rw [HF]; done) | (rw [HF]; rfl)), HS.out.below⟩
     ·replace h5 := hid h5
      refine lin_no (i := 3) rfl rfl (by kernel_rfl) ?_
      simp only [sA, sB]
      refine lin_no (i := 4) rfl rfl (by kernel_rfl) ?_
      simp only [sA, sB]
      refine lv 5 (.bool true) rfl rfl (by intro x hx; go_simp; all_goals exact rfl) ?_
      simp only [sA, sB]
      clear HS
      refine ld fun W9 HS => ?_
      go_upto_region 16 with fail
      refine lnb HS.out rfl ?_
      refine lc 0 15 #[] (.tuple #[vS scalar_All, vS scalar_All, .bool false]) rfl rfl (by intro x hx; exact scalar_none_any _) ?_
      simp only [sA, sB, vS]
      refine lv 1 (vS scalar_All) rfl rfl (by intro x hx; go_simp; all_goals exact rfl) ?_
      simp only [sA, sB, vS]
      refine lv 2 (vS scalar_All) rfl rfl (by intro x hx; go_simp; all_goals exact rfl) ?_
      simp only [sA, sB, vS]
      refine lv 3 (.bool false) rfl rfl (by intro x hx; go_simp; all_goals exact rfl) ?_
      simp only [sA, sB]
      refine ls 4 2 0 (cS scalar_All) rfl rfl rfl (by intro x hx; obtain ⟨⟨_, z0, q0⟩, ⟨_, z1, q1⟩, ⟨_, z2, q2⟩, ⟨_, z3, q3⟩, ⟨_, z4, q4⟩, ⟨_, z5, q5⟩⟩ := hx.at6 2 0 rfl; go_simp; all_goals rfl) ?_
      simp only [Blk.putC, setM, cS, sA, sB]
      refine ls 5 3 0 (cS scalar_All) rfl rfl rfl (by intro x hx; obtain ⟨⟨_, z0, q0⟩, ⟨_, z1, q1⟩, ⟨_, z2, q2⟩, ⟨_, z3, q3⟩, ⟨_, z4, q4⟩, ⟨_, z5, q5⟩⟩ := hx.at6 3 0 rfl; go_simp; all_goals rfl) ?_
      simp only [Blk.putC, setM, cS, sA, sB]
      refine la 6 98 rfl rfl rfl rfl ?_
      simp only [sA, sB]
      clear HS
      refine ld fun W10 HS => ?_
      go_wp2
      obtain ⟨r0, r1, r2, r3, r4, r5⟩ := HS.out.six 2 0 rfl rfl
      obtain ⟨r6, r7, r8, r9, r10, r11⟩ := HS.out.six 3 0 rfl rfl
      have HF : scalar_Branch x0 x1 x2 x3 x4 = (scalar_All, scalar_All, false) := by
        unfold scalar_Branch
        rw [cond_f h1.out, cond_f h2.out, cond_f h3.out, cond_f h4.out, cond_t h5.out]
      exact bodyPost_ret (v := .tuple #[vS scalar_All, vS scalar_All, .bool false]) (by simp [results, Tryz.results5, go_sem, r0, r1, r2, r3, r4, r5, r6, r7, r8, r9, r10, r11, vS]) rfl ⟨(by first | (rw [HF]; done) | (rw [HF]; rfl)), HS.out.below⟩
    ·replace h4 := hid h4
     go_upto_region 12 with fail
     refine lnb HS.out rfl ?_
     refine lc 0 15 #[] (.tuple #[vS scalar_All, vS scalar_All, .bool false]) rfl rfl (by intro x hx; exact scalar_none_any _) ?_
     simp only [sA, sB, vS]
     refine lv 1 (vS scalar_All) rfl rfl (by intro x hx; go_simp; all_goals exact rfl) ?_
     simp only [sA, sB, vS]
     refine lv 2 (vS scalar_All) rfl rfl (by intro x hx; go_simp; all_goals exact rfl) ?_
     simp only [sA, sB, vS]
     refine lv 3 (.bool false) rfl rfl (by intro x hx; go_simp; all_goals exact rfl) ?_
     simp only [sA, sB]
     refine ls 4 2 0 (cS scalar_All) rfl rfl rfl (by intro x hx; obtain ⟨⟨_, z0, q0⟩, ⟨_, z1, q1⟩, ⟨_, z2, q2⟩, ⟨_, z3, q3⟩, ⟨_, z4, q4⟩, ⟨_, z5, q5⟩⟩ := hx.at6 2 0 rfl; go_simp; all_goals rfl) ?_
     simp only [Blk.putC, setM, cS, sA, sB]
     refine ls 5 3 0 (cS scalar_All) rfl rfl rfl (by intro x hx; obtain ⟨⟨_, z0, q0⟩, ⟨_, z1, q1⟩, ⟨_, z2, q2⟩, ⟨_, z3, q3⟩, ⟨_, z4, q4⟩, ⟨_, z5, q5⟩⟩ := hx.at6 3 0 rfl; go_simp; all_goals rfl) ?_
     simp only [Blk.putC, setM, cS, sA, sB]
     refine la 6 78 rfl rfl rfl rfl ?_
     simp only [sA, sB]
     clear HS
     refine ld fun W7 HS => ?_
     go_wp2
     obtain ⟨r0, r1, r2, r3, r4, r5⟩ := HS.out.six 2 0 rfl rfl
     obtain ⟨r6, r7, r8, r9, r10, r11⟩ := HS.out.six 3 0 rfl rfl
     have HF : scalar_Branch x0 x1 x2 x3 x4 = (scalar_All, scalar_All, false) := by
       unfold scalar_Branch
       rw [cond_f h1.out, cond_f h2.out, cond_f h3.out, cond_t h4.out]
     exact bodyPost_ret (v := .tuple #[vS scalar_All, vS scalar_All, .bool false]) (by simp [results, Tryz.results5, go_sem, r0, r1, r2, r3, r4, r5, r6, r7, r8, r9, r10, r11, vS]) rfl ⟨(by first | (rw [HF]; done) | (rw [HF]; rfl)), HS.out.below⟩
   ·replace h3 := hid h3
    refine lv 3 (.int .i64 (ti (x0))) rfl rfl (by intro x hx; go_simp; all_goals exact rfl) ?_
    simp only [sA, sB]
    refine lv 4 (.pointer (some ⟨w.heap.size, 2, none⟩)) rfl rfl (by intro x hx; go_simp; all_goals exact rfl) ?_
    simp only [sA, sB]
    refine lv 5 (.pointer (some ⟨w.heap.size, 3, none⟩)) rfl rfl (by intro x hx; go_simp; all_goals exact rfl) ?_
    simp only [sA, sB]
    refine lv 6 (.int .u64 (tn (x2.u.hi))) rfl rfl (by intro x hx; have f0 := hx.load 0 3 rfl rfl; go_simp; all_goals exact rfl) ?_
    simp only [sA, sB]
    refine lv 7 (.pointer (some ⟨w.heap.size + 1, 2, none⟩)) rfl rfl (by intro x hx; go_simp; all_goals exact rfl) ?_
    simp only [sA, sB]
    refine lv 8 (.pointer (some ⟨w.heap.size + 1, 3, none⟩)) rfl rfl (by intro x hx; go_simp; all_goals exact rfl) ?_
    simp only [sA, sB]
    refine lv 9 (.int .u64 (tn (x3.u.hi))) rfl rfl (by intro x hx; have f0 := hx.load 1 3 rfl rfl; go_simp; all_goals exact rfl) ?_
    simp only [sA, sB]
    refine lc 10 16 #[.int .i64 (ti (x0)), .int .u64 (tn (x2.u.hi)), .int .u64 (tn (x3.u.hi))] (.bool (scalar_short x0 x2.u.hi x3.u.hi)) rfl rfl (by intro x hx; exact scalar_short_any x0 x2.u.hi x3.u.hi _) ?_
    simp only [sA, sB]
    refine lv 11 (.bool ((!(scalar_short x0 x2.u.hi x3.u.hi)))) rfl rfl (by intro x hx; go_simp; all_goals exact rfl) ?_
    simp only [sA, sB]
    refine lv 12 (.bool ((!(scalar_short x0 x2.u.hi x3.u.hi)))) rfl rfl (by intro x hx; go_simp; all_goals exact rfl) ?_
    simp only [sA, sB]
    refine la 13 61 rfl rfl rfl rfl ?_
    simp only [sA, sB]
    clear HS
    refine ld fun W4 HS => ?_
    cases h4 : ((!(scalar_short x0 x2.u.hi x3.u.hi)))
    ·replace h4 := hid h4
     go_upto_region 10 with fail
     refine lnb HS.out rfl ?_
     refine lm 0 0 rfl rfl rfl rfl ?_
     simp only [sA, sB]
     refine lv 1 (vS x2) rfl rfl (by intro x hx; obtain ⟨f0, f1, f2, f3, f4, f5⟩ := hx.six 0 0 rfl rfl; go_simp; all_goals exact rfl) ?_
     simp only [sA, sB, vS]
     refine lv 2 (vS x3) rfl rfl (by intro x hx; obtain ⟨f0, f1, f2, f3, f4, f5⟩ := hx.six 1 0 rfl rfl; go_simp; all_goals exact rfl) ?_
     simp only [sA, sB, vS]
     refine lm 3 4 rfl rfl rfl rfl ?_
     simp only [sA, sB]
     refine lc 4 17 #[.int .i64 (ti (x0)), vS x2, vS x3, .bool (x4)] (.tuple #[vS ((scalar_bounded x0 x2 x3 x4).1), vS ((scalar_bounded x0 x2 x3 x4).2.1), .bool ((scalar_bounded x0 x2 x3 x4).2.2)]) rfl rfl (by intro x hx; exact scalar_bounded_any x0 x2 x3 x4 _) ?_
     simp only [sA, sB, vS]
     refine lm 5 69 rfl rfl rfl rfl ?_
     simp only [sA, sB]
     refine lv 6 (vS ((scalar_bounded x0 x2 x3 x4).1)) rfl rfl (by intro x hx; go_simp; all_goals exact rfl) ?_
     simp only [sA, sB, vS]
     refine lv 7 (vS ((scalar_bounded x0 x2 x3 x4).2.1)) rfl rfl (by intro x hx; go_simp; all_goals exact rfl) ?_
     simp only [sA, sB, vS]
     refine lv 8 (.bool ((scalar_bounded x0 x2 x3 x4).2.2)) rfl rfl (by intro x hx; go_simp; all_goals exact rfl) ?_
     simp only [sA, sB]
     refine ls 9 0 0 (cS ((scalar_bounded x0 x2 x3 x4).1)) rfl rfl rfl (by intro x hx; obtain ⟨⟨_, z0, q0⟩, ⟨_, z1, q1⟩, ⟨_, z2, q2⟩, ⟨_, z3, q3⟩, ⟨_, z4, q4⟩, ⟨_, z5, q5⟩⟩ := hx.at6 0 0 rfl; go_simp; all_goals rfl) ?_
     simp only [Blk.putC, setM, cS, sA, sB]
     refine ls 10 1 0 (cS ((scalar_bounded x0 x2 x3 x4).2.1)) rfl rfl rfl (by intro x hx; obtain ⟨⟨_, z0, q0⟩, ⟨_, z1, q1⟩, ⟨_, z2, q2⟩, ⟨_, z3, q3⟩, ⟨_, z4, q4⟩, ⟨_, z5, q5⟩⟩ := hx.at6 1 0 rfl; go_simp; all_goals rfl) ?_
     simp only [Blk.putC, setM, cS, sA, sB]
     refine la 11 72 rfl rfl rfl rfl ?_
     simp only [sA, sB]
     clear HS
     refine ld fun W5 HS => ?_
     go_upto_region 11 with fail
     refine lnb HS.out rfl ?_
     refine lm 0 14 rfl rfl rfl rfl ?_
     simp only [sA, sB]
     refine lv 1 (.bool ((!((scalar_bounded x0 x2 x3 x4).2.2)))) rfl rfl (by intro x hx; go_simp; all_goals exact rfl) ?_
     simp only [sA, sB]
     clear HS
     refine ld fun W6 HS => ?_
     cases h5 : ((!((scalar_bounded x0 x2 x3 x4).2.2)))
     ·replace h5 := hid h5
      go_upto_region 13 with fail
      refine lnb HS.out rfl ?_
      refine lv 0 (vS ((scalar_bounded x0 x2 x3 x4).1)) rfl rfl (by intro x hx; obtain ⟨f0, f1, f2, f3, f4, f5⟩ := hx.six 0 0 rfl rfl; go_simp; all_goals exact rfl) ?_
      simp only [sA, sB, vS]
      refine lc 1 18 #[vS ((scalar_bounded x0 x2 x3 x4).1)] (.tuple #[vS ((scalar_Norm ((scalar_bounded x0 x2 x3 x4).1)).1), .bool ((scalar_Norm ((scalar_bounded x0 x2 x3 x4).1)).2)]) rfl rfl (by intro x hx; exact scalar_Norm_any ((scalar_bounded x0 x2 x3 x4).1) _) ?_
      simp only [sA, sB, vS]
      refine lm 2 81 rfl rfl rfl rfl ?_
      simp only [sA, sB]
      refine lv 3 (vS ((scalar_Norm ((scalar_bounded x0 x2 x3 x4).1)).1)) rfl rfl (by intro x hx; go_simp; all_goals exact rfl) ?_
      simp only [sA, sB, vS]
      refine lv 4 (.bool ((scalar_Norm ((scalar_bounded x0 x2 x3 x4).1)).2)) rfl rfl (by intro x hx; go_simp; all_goals exact rfl) ?_
      simp only [sA, sB]
      refine ls 5 0 0 (cS ((scalar_Norm ((scalar_bounded x0 x2 x3 x4).1)).1)) rfl rfl rfl (by intro x hx; obtain ⟨⟨_, z0, q0⟩, ⟨_, z1, q1⟩, ⟨_, z2, q2⟩, ⟨_, z3, q3⟩, ⟨_, z4, q4⟩, ⟨_, z5, q5⟩⟩ := hx.at6 0 0 rfl; go_simp; all_goals rfl) ?_
      simp only [Blk.putC, setM, cS, sA, sB]
      refine la 6 83 rfl rfl rfl rfl ?_
      simp only [sA, sB]
      clear HS
      refine ld fun W7 HS => ?_
      go_upto_region 14 with fail
      refine lnb HS.out rfl ?_
      refine lv 0 (vS ((scalar_bounded x0 x2 x3 x4).2.1)) rfl rfl (by intro x hx; obtain ⟨f0, f1, f2, f3, f4, f5⟩ := hx.six 1 0 rfl rfl; go_simp; all_goals exact rfl) ?_
      simp only [sA, sB, vS]
      refine lc 1 18 #[vS ((scalar_bounded x0 x2 x3 x4).2.1)] (.tuple #[vS ((scalar_Norm ((scalar_bounded x0 x2 x3 x4).2.1)).1), .bool ((scalar_Norm ((scalar_bounded x0 x2 x3 x4).2.1)).2)]) rfl rfl (by intro x hx; exact scalar_Norm_any ((scalar_bounded x0 x2 x3 x4).2.1) _) ?_
      simp only [sA, sB, vS]
      refine lm 2 86 rfl rfl rfl rfl ?_
      simp only [sA, sB]
      refine lv 3 (vS ((scalar_Norm ((scalar_bounded x0 x2 x3 x4).2.1)).1)) rfl rfl (by intro x hx; go_simp; all_goals exact rfl) ?_
      simp only [sA, sB, vS]
      refine lv 4 (.bool ((scalar_Norm ((scalar_bounded x0 x2 x3 x4).2.1)).2)) rfl rfl (by intro x hx; go_simp; all_goals exact rfl) ?_
      simp only [sA, sB]
      refine ls 5 1 0 (cS ((scalar_Norm ((scalar_bounded x0 x2 x3 x4).2.1)).1)) rfl rfl rfl (by intro x hx; obtain ⟨⟨_, z0, q0⟩, ⟨_, z1, q1⟩, ⟨_, z2, q2⟩, ⟨_, z3, q3⟩, ⟨_, z4, q4⟩, ⟨_, z5, q5⟩⟩ := hx.at6 1 0 rfl; go_simp; all_goals rfl) ?_
      simp only [Blk.putC, setM, cS, sA, sB]
      refine la 6 88 rfl rfl rfl rfl ?_
      simp only [sA, sB]
      clear HS
      refine ld fun W8 HS => ?_
      go_upto_region 15 with fail
      refine lnb HS.out rfl ?_
      refine lm 0 15 rfl rfl rfl rfl ?_
      simp only [sA, sB]
      refine lv 1 (.bool ((!((scalar_Norm ((scalar_bounded x0 x2 x3 x4).1)).2)))) rfl rfl (by intro x hx; go_simp; all_goals exact rfl) ?_
      simp only [sA, sB]
      refine lm 2 90 rfl rfl rfl rfl ?_
      simp only [sA, sB]
      cases h6 : ((!((scalar_Norm ((scalar_bounded x0 x2 x3 x4).1)).2)))
      ·replace h6 := hid h6
       refine lv 3 (.bool ((scalar_Norm ((scalar_bounded x0 x2 x3 x4).2.1)).2)) rfl rfl (by intro x hx; go_simp; all_goals exact rfl) ?_
       simp only [sA, sB]
       refine lv 4 (.bool ((!((scalar_Norm ((scalar_bounded x0 x2 x3 x4).2.1)).2)))) rfl rfl (by intro x hx; go_simp; all_goals exact rfl) ?_
       simp only [sA, sB]
       refine lv 5 (.bool ((!((scalar_Norm ((scalar_bounded x0 x2 x3 x4).2.1)).2)))) rfl rfl (by intro x hx; go_simp; all_goals exact rfl) ?_
       simp only [sA, sB]
       clear HS
       refine ld fun W9 HS => ?_
       cases h7 : ((!((scalar_Norm ((scalar_bounded x0 x2 x3 x4).2.1)).2)))
       ·replace h7 := hid h7
        go_upto_region 17 with fail
        refine upb 5 (((HS.out.drew.forget 2 0 6 rfl).forget 3 0 6 rfl)) rfl ?_
        simp only [Blk.dropC, noneM, sA, sB]
        refine tv 0 (vS ((scalar_Norm ((scalar_bounded x0 x2 x3 x4).1)).1)) rfl rfl (by intro x hx; obtain ⟨f0, f1, f2, f3, f4, f5⟩ := hx.six 0 0 rfl rfl; go_simp; all_goals exact rfl) ?_
        simp only [sA, sB, vS]
        refine tv 1 (vS ((scalar_Norm ((scalar_bounded x0 x2 x3 x4).2.1)).1)) rfl rfl (by intro x hx; obtain ⟨f0, f1, f2, f3, f4, f5⟩ := hx.six 1 0 rfl rfl; go_simp; all_goals exact rfl) ?_
        simp only [sA, sB, vS]
        refine ts 2 2 0 (cS ((scalar_Norm ((scalar_bounded x0 x2 x3 x4).1)).1)) rfl rfl rfl (by intro x hx; obtain ⟨⟨_, z0, q0⟩, ⟨_, z1, q1⟩, ⟨_, z2, q2⟩, ⟨_, z3, q3⟩, ⟨_, z4, q4⟩, ⟨_, z5, q5⟩⟩ := hx.at6 2 0 rfl; go_simp; all_goals rfl) ?_
        simp only [Blk.putC, setM, cS, sA, sB]
        refine ts 3 3 0 (cS ((scalar_Norm ((scalar_bounded x0 x2 x3 x4).2.1)).1)) rfl rfl rfl (by intro x hx; obtain ⟨⟨_, z0, q0⟩, ⟨_, z1, q1⟩, ⟨_, z2, q2⟩, ⟨_, z3, q3⟩, ⟨_, z4, q4⟩, ⟨_, z5, q5⟩⟩ := hx.at6 3 0 rfl; go_simp; all_goals rfl) ?_
        simp only [Blk.putC, setM, cS, sA, sB]
        refine tv 4 (.bool true) rfl rfl (by intro x hx; go_simp; all_goals exact rfl) ?_
        simp only [sA, sB]
        clear HS
        refine td fun W10 HS => ?_
        go_wp2
        obtain ⟨r0, r1, r2, r3, r4, r5⟩ := HS.out.six 2 0 rfl rfl
        obtain ⟨r6, r7, r8, r9, r10, r11⟩ := HS.out.six 3 0 rfl rfl
        have HF : scalar_Branch x0 x1 x2 x3 x4 = ((scalar_Norm ((scalar_bounded x0 x2 x3 x4).1)).1, (scalar_Norm ((scalar_bounded x0 x2 x3 x4).2.1)).1, true) := by
          unfold scalar_Branch
          rw [cond_f h1.out, cond_f h2.out, cond_t h3.out, cond_f h4.out, cond_f h5.out, cond_f h6.out, cond_f h7.out]
        exact bodyPost_ret (v := .tuple #[vS ((scalar_Norm ((scalar_bounded x0 x2 x3 x4).1)).1), vS ((scalar_Norm ((scalar_bounded x0 x2 x3 x4).2.1)).1), .bool true]) (by simp [results, Tryz.results5, go_sem, r0, r1, r2, r3, r4, r5, r6, r7, r8, r9, r10, r11, vS]) rfl ⟨(by first | (rw [HF]; done) | (rw [HF]; rfl)), HS.out.below⟩
       ·replace h7 := hid h7
        go_upto_region 16 with fail
        refine lnb HS.out rfl ?_
        refine lc 0 15 #[] (.tuple #[vS scalar_All, vS scalar_All, .bool false]) rfl rfl (by intro x hx; exact scalar_none_any _) ?_
        simp only [sA, sB, vS]
        refine lv 1 (vS scalar_All) rfl rfl (by intro x hx; go_simp; all_goals exact rfl) ?_
        simp only [sA, sB, vS]
        refine lv 2 (vS scalar_All) rfl rfl (by intro x hx; go_simp; all_goals exact rfl) ?_
        simp only [sA, sB, vS]
        refine lv 3 (.bool false) rfl rfl (by intro x hx; go_simp; all_goals exact rfl) ?_
        simp only [sA, sB]
        refine ls 4 2 0 (cS scalar_All) rfl rfl rfl (by intro x hx; obtain ⟨⟨_, z0, q0⟩, ⟨_, z1, q1⟩, ⟨_, z2, q2⟩, ⟨_, z3, q3⟩, ⟨_, z4, q4⟩, ⟨_, z5, q5⟩⟩ := hx.at6 2 0 rfl; go_simp; all_goals rfl) ?_
        simp only [Blk.putC, setM, cS, sA, sB]
        refine ls 5 3 0 (cS scalar_All) rfl rfl rfl (by intro x hx; obtain ⟨⟨_, z0, q0⟩, ⟨_, z1, q1⟩, ⟨_, z2, q2⟩, ⟨_, z3, q3⟩, ⟨_, z4, q4⟩, ⟨_, z5, q5⟩⟩ := hx.at6 3 0 rfl; go_simp; all_goals rfl) ?_
        simp only [Blk.putC, setM, cS, sA, sB]
        refine la 6 98 rfl rfl rfl rfl ?_
        simp only [sA, sB]
        clear HS
        refine ld fun W10 HS => ?_
        go_wp2
        obtain ⟨r0, r1, r2, r3, r4, r5⟩ := HS.out.six 2 0 rfl rfl
        obtain ⟨r6, r7, r8, r9, r10, r11⟩ := HS.out.six 3 0 rfl rfl
        have HF : scalar_Branch x0 x1 x2 x3 x4 = (scalar_All, scalar_All, false) := by
          unfold scalar_Branch
          rw [cond_f h1.out, cond_f h2.out, cond_t h3.out, cond_f h4.out, cond_f h5.out, cond_f h6.out, cond_t h7.out]
        exact bodyPost_ret (v := .tuple #[vS scalar_All, vS scalar_All, .bool false]) (by simp [results, Tryz.results5, go_sem, r0, r1, r2, r3, r4, r5, r6, r7, r8, r9, r10, r11, vS]) rfl ⟨(by first | (rw [HF]; done) | (rw [HF]; rfl)), HS.out.below⟩
      ·replace h6 := hid h6
       refine lin_no (i := 3) rfl rfl (by kernel_rfl) ?_
       simp only [sA, sB]
       refine lin_no (i := 4) rfl rfl (by kernel_rfl) ?_
       simp only [sA, sB]
       refine lv 5 (.bool true) rfl rfl (by intro x hx; go_simp; all_goals exact rfl) ?_
       simp only [sA, sB]
       clear HS
       refine ld fun W9 HS => ?_
       go_upto_region 16 with fail
       refine lnb HS.out rfl ?_
       refine lc 0 15 #[] (.tuple #[vS scalar_All, vS scalar_All, .bool false]) rfl rfl (by intro x hx; exact scalar_none_any _) ?_
       simp only [sA, sB, vS]
       refine lv 1 (vS scalar_All) rfl rfl (by intro x hx; go_simp; all_goals exact rfl) ?_
       simp only [sA, sB, vS]
       refine lv 2 (vS scalar_All) rfl rfl (by intro x hx; go_simp; all_goals exact rfl) ?_
       simp only [sA, sB, vS]
       refine lv 3 (.bool false) rfl rfl (by intro x hx; go_simp; all_goals exact rfl) ?_
       simp only [sA, sB]
       refine ls 4 2 0 (cS scalar_All) rfl rfl rfl (by intro x hx; obtain ⟨⟨_, z0, q0⟩, ⟨_, z1, q1⟩, ⟨_, z2, q2⟩, ⟨_, z3, q3⟩, ⟨_, z4, q4⟩, ⟨_, z5, q5⟩⟩ := hx.at6 2 0 rfl; go_simp; all_goals rfl) ?_
       simp only [Blk.putC, setM, cS, sA, sB]
       refine ls 5 3 0 (cS scalar_All) rfl rfl rfl (by intro x hx; obtain ⟨⟨_, z0, q0⟩, ⟨_, z1, q1⟩, ⟨_, z2, q2⟩, ⟨_, z3, q3⟩, ⟨_, z4, q4⟩, ⟨_, z5, q5⟩⟩ := hx.at6 3 0 rfl; go_simp; all_goals rfl) ?_
       simp only [Blk.putC, setM, cS, sA, sB]
       refine la 6 98 rfl rfl rfl rfl ?_
       simp only [sA, sB]
       clear HS
       refine ld fun W10 HS => ?_
       go_wp2
       obtain ⟨r0, r1, r2, r3, r4, r5⟩ := HS.out.six 2 0 rfl rfl
       obtain ⟨r6, r7, r8, r9, r10, r11⟩ := HS.out.six 3 0 rfl rfl
       have HF : scalar_Branch x0 x1 x2 x3 x4 = (scalar_All, scalar_All, false) := by
         unfold scalar_Branch
         rw [cond_f h1.out, cond_f h2.out, cond_t h3.out, cond_f h4.out, cond_f h5.out, cond_t h6.out]
       exact bodyPost_ret (v := .tuple #[vS scalar_All, vS scalar_All, .bool false]) (by simp [results, Tryz.results5, go_sem, r0, r1, r2, r3, r4, r5, r6, r7, r8, r9, r10, r11, vS]) rfl ⟨(by first | (rw [HF]; done) | (rw [HF]; rfl)), HS.out.below⟩
     ·replace h5 := hid h5
      go_upto_region 12 with fail
      refine lnb HS.out rfl ?_
      refine lc 0 15 #[] (.tuple #[vS scalar_All, vS scalar_All, .bool false]) rfl rfl (by intro x hx; exact scalar_none_any _) ?_
      simp only [sA, sB, vS]
      refine lv 1 (vS scalar_All) rfl rfl (by intro x hx; go_simp; all_goals exact rfl) ?_
      simp only [sA, sB, vS]
      refine lv 2 (vS scalar_All) rfl rfl (by intro x hx; go_simp; all_goals exact rfl) ?_
      simp only [sA, sB, vS]
      refine lv 3 (.bool false) rfl rfl (by intro x hx; go_simp; all_goals exact rfl) ?_
      simp only [sA, sB]
      refine ls 4 2 0 (cS scalar_All) rfl rfl rfl (by intro x hx; obtain ⟨⟨_, z0, q0⟩, ⟨_, z1, q1⟩, ⟨_, z2, q2⟩, ⟨_, z3, q3⟩, ⟨_, z4, q4⟩, ⟨_, z5, q5⟩⟩ := hx.at6 2 0 rfl; go_simp; all_goals rfl) ?_
      simp only [Blk.putC, setM, cS, sA, sB]
      refine ls 5 3 0 (cS scalar_All) rfl rfl rfl (by intro x hx; obtain ⟨⟨_, z0, q0⟩, ⟨_, z1, q1⟩, ⟨_, z2, q2⟩, ⟨_, z3, q3⟩, ⟨_, z4, q4⟩, ⟨_, z5, q5⟩⟩ := hx.at6 3 0 rfl; go_simp; all_goals rfl) ?_
      simp only [Blk.putC, setM, cS, sA, sB]
      refine la 6 78 rfl rfl rfl rfl ?_
      simp only [sA, sB]
      clear HS
      refine ld fun W7 HS => ?_
      go_wp2
      obtain ⟨r0, r1, r2, r3, r4, r5⟩ := HS.out.six 2 0 rfl rfl
      obtain ⟨r6, r7, r8, r9, r10, r11⟩ := HS.out.six 3 0 rfl rfl
      have HF : scalar_Branch x0 x1 x2 x3 x4 = (scalar_All, scalar_All, false) := by
        unfold scalar_Branch
        rw [cond_f h1.out, cond_f h2.out, cond_t h3.out, cond_f h4.out, cond_t h5.out]
      exact bodyPost_ret (v := .tuple #[vS scalar_All, vS scalar_All, .bool false]) (by simp [results, Tryz.results5, go_sem, r0, r1, r2, r3, r4, r5, r6, r7, r8, r9, r10, r11, vS]) rfl ⟨(by first | (rw [HF]; done) | (rw [HF]; rfl)), HS.out.below⟩
    ·replace h4 := hid h4
     go_upto_region 9 with fail
     refine upb 5 (((HS.out.drew.forget 2 0 6 rfl).forget 3 0 6 rfl)) rfl ?_
     simp only [Blk.dropC, noneM, sA, sB]
     refine tv 0 (vS x2) rfl rfl (by intro x hx; obtain ⟨f0, f1, f2, f3, f4, f5⟩ := hx.six 0 0 rfl rfl; go_simp; all_goals exact rfl) ?_
     simp only [sA, sB, vS]
     refine tv 1 (vS x3) rfl rfl (by intro x hx; obtain ⟨f0, f1, f2, f3, f4, f5⟩ := hx.six 1 0 rfl rfl; go_simp; all_goals exact rfl) ?_
     simp only [sA, sB, vS]
     refine ts 2 2 0 (cS x2) rfl rfl rfl (by intro x hx; obtain ⟨⟨_, z0, q0⟩, ⟨_, z1, q1⟩, ⟨_, z2, q2⟩, ⟨_, z3, q3⟩, ⟨_, z4, q4⟩, ⟨_, z5, q5⟩⟩ := hx.at6 2 0 rfl; go_simp; all_goals rfl) ?_
     simp only [Blk.putC, setM, cS, sA, sB]
     refine ts 3 3 0 (cS x3) rfl rfl rfl (by intro x hx; obtain ⟨⟨_, z0, q0⟩, ⟨_, z1, q1⟩, ⟨_, z2, q2⟩, ⟨_, z3, q3⟩, ⟨_, z4, q4⟩, ⟨_, z5, q5⟩⟩ := hx.at6 3 0 rfl; go_simp; all_goals rfl) ?_
     simp only [Blk.putC, setM, cS, sA, sB]
     refine tv 4 (.bool true) rfl rfl (by intro x hx; go_simp; all_goals exact rfl) ?_
     simp only [sA, sB]
     clear HS
     refine td fun W5 HS => ?_
     go_wp2
     obtain ⟨r0, r1, r2, r3, r4, r5⟩ := HS.out.six 2 0 rfl rfl
     obtain ⟨r6, r7, r8, r9, r10, r11⟩ := HS.out.six 3 0 rfl rfl
     have HF : scalar_Branch x0 x1 x2 x3 x4 = (x2, x3, true) := by
       unfold scalar_Branch
       rw [cond_f h1.out, cond_f h2.out, cond_t h3.out, cond_t h4.out]
     exact bodyPost_ret (v := .tuple #[vS x2, vS x3, .bool true]) (by simp [results, Tryz.results5, go_sem, r0, r1, r2, r3, r4, r5, r6, r7, r8, r9, r10, r11, vS]) rfl ⟨(by first | (rw [HF]; done) | (rw [HF]; rfl)), HS.out.below⟩
  ·replace h2 := hid h2
   go_upto_region 5 with fail
   refine lnb HS.out rfl ?_
   refine lm 0 13 rfl rfl rfl rfl ?_
   simp only [sA, sB]
   refine lm 1 4 rfl rfl rfl rfl ?_
   simp only [sA, sB]
   refine lv 2 (.bool (((jmpR x0 x1 x2.t.lo x3.t.lo) != x4))) rfl rfl (by intro x hx; go_simp; (first | done | exact neB (jmpR x0 x1 x2.t.lo x3.t.lo) x4 | exact congrArg _ (neB (jmpR x0 x1 x2.t.lo x3.t.lo) x4) | (rw [neB (jmpR x0 x1 x2.t.lo x3.t.lo) x4]; done) | (rw [neB (jmpR x0 x1 x2.t.lo x3.t.lo) x4]; rfl))) ?_
   simp only [sA, sB]
   clear HS
   refine ld fun W4 HS => ?_
   cases h3 : (((jmpR x0 x1 x2.t.lo x3.t.lo) != x4))
   ·replace h3 := hid h3
    go_upto_region 7 with fail
    refine upb 5 (((HS.out.drew.forget 2 0 6 rfl).forget 3 0 6 rfl)) rfl ?_
    simp only [Blk.dropC, noneM, sA, sB]
    refine tv 0 (vS x2) rfl rfl (by intro x hx; obtain ⟨f0, f1, f2, f3, f4, f5⟩ := hx.six 0 0 rfl rfl; go_simp; all_goals exact rfl) ?_
    simp only [sA, sB, vS]
    refine tv 1 (vS x3) rfl rfl (by intro x hx; obtain ⟨f0, f1, f2, f3, f4, f5⟩ := hx.six 1 0 rfl rfl; go_simp; all_goals exact rfl) ?_
    simp only [sA, sB, vS]
    refine ts 2 2 0 (cS x2) rfl rfl rfl (by intro x hx; obtain ⟨⟨_, z0, q0⟩, ⟨_, z1, q1⟩, ⟨_, z2, q2⟩, ⟨_, z3, q3⟩, ⟨_, z4, q4⟩, ⟨_, z5, q5⟩⟩ := hx.at6 2 0 rfl; go_simp; all_goals rfl) ?_
    simp only [Blk.putC, setM, cS, sA, sB]
    refine ts 3 3 0 (cS x3) rfl rfl rfl (by intro x hx; obtain ⟨⟨_, z0, q0⟩, ⟨_, z1, q1⟩, ⟨_, z2, q2⟩, ⟨_, z3, q3⟩, ⟨_, z4, q4⟩, ⟨_, z5, q5⟩⟩ := hx.at6 3 0 rfl; go_simp; all_goals rfl) ?_
    simp only [Blk.putC, setM, cS, sA, sB]
    refine tv 4 (.bool true) rfl rfl (by intro x hx; go_simp; all_goals exact rfl) ?_
    simp only [sA, sB]
    clear HS
    refine td fun W5 HS => ?_
    go_wp2
    obtain ⟨r0, r1, r2, r3, r4, r5⟩ := HS.out.six 2 0 rfl rfl
    obtain ⟨r6, r7, r8, r9, r10, r11⟩ := HS.out.six 3 0 rfl rfl
    have HF : scalar_Branch x0 x1 x2 x3 x4 = (x2, x3, true) := by
      unfold scalar_Branch
      rw [cond_f h1.out, cond_t h2.out, cond_f h3.out]
    exact bodyPost_ret (v := .tuple #[vS x2, vS x3, .bool true]) (by simp [results, Tryz.results5, go_sem, r0, r1, r2, r3, r4, r5, r6, r7, r8, r9, r10, r11, vS]) rfl ⟨(by first | (rw [HF]; done) | (rw [HF]; rfl)), HS.out.below⟩
   ·replace h3 := hid h3
    go_upto_region 6 with fail
    refine lnb HS.out rfl ?_
    refine lc 0 15 #[] (.tuple #[vS scalar_All, vS scalar_All, .bool false]) rfl rfl (by intro x hx; exact scalar_none_any _) ?_
    simp only [sA, sB, vS]
    refine lv 1 (vS scalar_All) rfl rfl (by intro x hx; go_simp; all_goals exact rfl) ?_
    simp only [sA, sB, vS]
    refine lv 2 (vS scalar_All) rfl rfl (by intro x hx; go_simp; all_goals exact rfl) ?_
    simp only [sA, sB, vS]
    refine lv 3 (.bool false) rfl rfl (by intro x hx; go_simp; all_goals exact rfl) ?_
    simp only [sA, sB]
    refine ls 4 2 0 (cS scalar_All) rfl rfl rfl (by intro x hx; obtain ⟨⟨_, z0, q0⟩, ⟨_, z1, q1⟩, ⟨_, z2, q2⟩, ⟨_, z3, q3⟩, ⟨_, z4, q4⟩, ⟨_, z5, q5⟩⟩ := hx.at6 2 0 rfl; go_simp; all_goals rfl) ?_
    simp only [Blk.putC, setM, cS, sA, sB]
    refine ls 5 3 0 (cS scalar_All) rfl rfl rfl (by intro x hx; obtain ⟨⟨_, z0, q0⟩, ⟨_, z1, q1⟩, ⟨_, z2, q2⟩, ⟨_, z3, q3⟩, ⟨_, z4, q4⟩, ⟨_, z5, q5⟩⟩ := hx.at6 3 0 rfl; go_simp; all_goals rfl) ?_
    simp only [Blk.putC, setM, cS, sA, sB]
    refine la 6 45 rfl rfl rfl rfl ?_
    simp only [sA, sB]
    clear HS
    refine ld fun W5 HS => ?_
    go_wp2
    obtain ⟨r0, r1, r2, r3, r4, r5⟩ := HS.out.six 2 0 rfl rfl
    obtain ⟨r6, r7, r8, r9, r10, r11⟩ := HS.out.six 3 0 rfl rfl
    have HF : scalar_Branch x0 x1 x2 x3 x4 = (scalar_All, scalar_All, false) := by
      unfold scalar_Branch
      rw [cond_f h1.out, cond_t h2.out, cond_t h3.out]
    exact bodyPost_ret (v := .tuple #[vS scalar_All, vS scalar_All, .bool false]) (by simp [results, Tryz.results5, go_sem, r0, r1, r2, r3, r4, r5, r6, r7, r8, r9, r10, r11, vS]) rfl ⟨(by first | (rw [HF]; done) | (rw [HF]; rfl)), HS.out.below⟩
 ·replace h1 := hid h1
  go_upto_region 3 with fail
  refine upb 5 (((HS.out.drew.forget 2 0 6 rfl).forget 3 0 6 rfl)) rfl ?_
  simp only [Blk.dropC, noneM, sA, sB]
  refine tv 0 (vS x2) rfl rfl (by intro x hx; obtain ⟨f0, f1, f2, f3, f4, f5⟩ := hx.six 0 0 rfl rfl; go_simp; all_goals exact rfl) ?_
  simp only [sA, sB, vS]
  refine tv 1 (vS x3) rfl rfl (by intro x hx; obtain ⟨f0, f1, f2, f3, f4, f5⟩ := hx.six 1 0 rfl rfl; go_simp; all_goals exact rfl) ?_
  simp only [sA, sB, vS]
  refine ts 2 2 0 (cS x2) rfl rfl rfl (by intro x hx; obtain ⟨⟨_, z0, q0⟩, ⟨_, z1, q1⟩, ⟨_, z2, q2⟩, ⟨_, z3, q3⟩, ⟨_, z4, q4⟩, ⟨_, z5, q5⟩⟩ := hx.at6 2 0 rfl; go_simp; all_goals rfl) ?_
  simp only [Blk.putC, setM, cS, sA, sB]
  refine ts 3 3 0 (cS x3) rfl rfl rfl (by intro x hx; obtain ⟨⟨_, z0, q0⟩, ⟨_, z1, q1⟩, ⟨_, z2, q2⟩, ⟨_, z3, q3⟩, ⟨_, z4, q4⟩, ⟨_, z5, q5⟩⟩ := hx.at6 3 0 rfl; go_simp; all_goals rfl) ?_
  simp only [Blk.putC, setM, cS, sA, sB]
  refine tv 4 (.bool true) rfl rfl (by intro x hx; go_simp; all_goals exact rfl) ?_
  simp only [sA, sB]
  clear HS
  refine td fun W3 HS => ?_
  go_wp2
  obtain ⟨r0, r1, r2, r3, r4, r5⟩ := HS.out.six 2 0 rfl rfl
  obtain ⟨r6, r7, r8, r9, r10, r11⟩ := HS.out.six 3 0 rfl rfl
  have HF : scalar_Branch x0 x1 x2 x3 x4 = (x2, x3, true) := by
    unfold scalar_Branch
    rw [cond_t h1.out]
  exact bodyPost_ret (v := .tuple #[vS x2, vS x3, .bool true]) (by simp [results, Tryz.results5, go_sem, r0, r1, r2, r3, r4, r5, r6, r7, r8, r9, r10, r11, vS]) rfl ⟨(by first | (rw [HF]; done) | (rw [HF]; rfl)), HS.out.below⟩
end Go.Proofs.YtmcapfbkedfdkaaGreatDoor.Sp
