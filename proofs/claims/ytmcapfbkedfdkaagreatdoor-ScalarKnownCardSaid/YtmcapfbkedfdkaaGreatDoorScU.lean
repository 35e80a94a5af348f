/-
  The contract of between.
-/
import Derived.Deep.DeepCutAuto
import Derived.Test.YtmcapfbkedfdkaaGreatDoorScF
import Derived.Test.YtmcapfbkedfdkaaGreatDoorScI
import Derived.Test.YtmcapfbkedfdkaaGreatDoorIf
namespace Go.Proofs.YtmcapfbkedfdkaaGreatDoor.Sp
open Go.RowKit Go.Proofs.YtmcapfbkedfdkaaGreatDoor.Num Go.Proofs.YtmcapfbkedfdkaaGreatDoor.Up
def btw (x0 : BitVec 64) (x1 : BitVec 64)  : Sc :=
 (scalar_Norm (Sc.mk scalar_All.t (P.mk x0 x1) scalar_All.s)).1
set_option maxRecDepth 100000 in
set_option maxHeartbeats 1000000 in
theorem btw_any (x0 : BitVec 64) (x1 : BitVec 64)   (w : World) :
  Calls Tryz.prog 6 #[.int .u64 (tn (x0)), .int .u64 (tn (x1))] w fun e w' => e = .returned (vS (btw x0 x1)) ∧ Below w.heap.size w w' := by
 simp only [vS]
 go_enter Tryz.func6, Tryz.ntmps6
 have HS : Hid (St w [⟨w.heap.size, [some (.int .u64 0), some (.int .u64 0), some (.int .u64 0), some (.int .u64 0), some (.int .i64 0), some (.int .i64 0)], 31⟩] _) := hid ((st_nil w).alloc (k := w.heap.size) rfl [.int .u64 0, .int .u64 0, .int .u64 0, .int .u64 0, .int .i64 0, .int .i64 0] 31)
 go_upto_region 1 with fail
 refine lnb HS.out rfl ?_
 refine lc 0 9 #[] (vS scalar_All) rfl rfl (by intro x hx; exact scalar_All_any _) ?_
 simp only [sA, sB, vS]
 refine lin_new (i := 1) rfl rfl (by rfl) [.int .u64 0, .int .u64 0, .int .u64 0, .int .u64 0, .int .i64 0, .int .i64 0] 31 (fun k => .pointer (some ⟨k, 0, none⟩)) [some (.int .u64 0), some (.int .u64 0), some (.int .u64 0), some (.int .u64 0), some (.int .i64 0), some (.int .i64 0)] (lessC_refl _) (by intro x hx; go_simp; all_goals exact rfl) (fun k1 => ?_)
 simp only [sA, sB, sC, sD]
 refine ls 2 1 0 (cS scalar_All) rfl rfl rfl (by intro x hx; obtain ⟨⟨_, z0, q0⟩, ⟨_, z1, q1⟩, ⟨_, z2, q2⟩, ⟨_, z3, q3⟩, ⟨_, z4, q4⟩, ⟨_, z5, q5⟩⟩ := hx.at6 1 0 rfl; go_simp; all_goals rfl) ?_
 simp only [Blk.putC, setM, cS, sA, sB]
 clear HS
 refine ld fun W1 HS => ?_
 go_upto_region 2 with fail
 refine lnb HS.out rfl ?_
 refine lm 0 0 rfl rfl rfl rfl ?_
 simp only [sA, sB]
 refine lm 1 1 rfl rfl rfl rfl ?_
 simp only [sA, sB]
 refine lv 2 (vU (P.mk x0 x1)) rfl rfl (by intro x hx; go_simp; all_goals exact rfl) ?_
 simp only [sA, sB, vU]
 refine lv 3 (.pointer (some ⟨k1, 2, none⟩)) rfl rfl (by intro x hx; go_simp; all_goals exact rfl) ?_
 simp only [sA, sB]
 refine ls 4 1 2 (cU (P.mk x0 x1)) rfl rfl rfl (by intro x hx; obtain ⟨⟨_, z0, q0⟩, ⟨_, z1, q1⟩⟩ := hx.at2 1 2 rfl; go_simp; all_goals rfl) ?_
 simp only [Blk.putC, setM, cU, sA, sB]
 clear HS
 refine ld fun W2 HS => ?_
 go_upto_region 3 with fail
 refine lnb HS.out rfl ?_
 refine lv 0 (vS (Sc.mk scalar_All.t (P.mk x0 x1) scalar_All.s)) rfl rfl (by intro x hx; obtain ⟨f0, f1, f2, f3, f4, f5⟩ := hx.six 1 0 rfl rfl; go_simp; all_goals exact rfl) ?_
 simp only [sA, sB, vS]
 refine lc 1 18 #[vS (Sc.mk scalar_All.t (P.mk x0 x1) scalar_All.s)] (.tuple #[vS ((scalar_Norm (Sc.mk scalar_All.t (P.mk x0 x1) scalar_All.s)).1), .bool ((scalar_Norm (Sc.mk scalar_All.t (P.mk x0 x1) scalar_All.s)).2)]) rfl rfl (by intro x hx; exact scalar_Norm_any (Sc.mk scalar_All.t (P.mk x0 x1) scalar_All.s) _) ?_
 simp only [sA, sB, vS]
 refine lm 2 15 rfl rfl rfl rfl ?_
 simp only [sA, sB]
 refine lv 3 (vS ((scalar_Norm (Sc.mk scalar_All.t (P.mk x0 x1) scalar_All.s)).1)) rfl rfl (by intro x hx; go_simp; all_goals exact rfl) ?_
 simp only [sA, sB, vS]
 refine lv 4 (.bool ((scalar_Norm (Sc.mk scalar_All.t (P.mk x0 x1) scalar_All.s)).2)) rfl rfl (by intro x hx; go_simp; all_goals exact rfl) ?_
 simp only [sA, sB]
 refine lin_new (i := 5) rfl rfl (by rfl) [.int .u64 0, .int .u64 0, .int .u64 0, .int .u64 0, .int .i64 0, .int .i64 0] 31 (fun k => .pointer (some ⟨k, 0, none⟩)) [some (.int .u64 0), some (.int .u64 0), some (.int .u64 0), some (.int .u64 0), some (.int .i64 0), some (.int .i64 0)] (lessC_refl _) (by intro x hx; go_simp; all_goals exact rfl) (fun k2 => ?_)
 simp only [sA, sB, sC, sD]
 refine ls 6 2 0 (cS ((scalar_Norm (Sc.mk scalar_All.t (P.mk x0 x1) scalar_All.s)).1)) rfl rfl rfl (by intro x hx; obtain ⟨⟨_, z0, q0⟩, ⟨_, z1, q1⟩, ⟨_, z2, q2⟩, ⟨_, z3, q3⟩, ⟨_, z4, q4⟩, ⟨_, z5, q5⟩⟩ := hx.at6 2 0 rfl; go_simp; all_goals rfl) ?_
 simp only [Blk.putC, setM, cS, sA, sB]
 refine la 7 17 rfl rfl rfl rfl ?_
 simp only [sA, sB]
 clear HS
 refine ld fun W3 HS => ?_
 go_upto_region 4 with fail
 refine lnb HS.out rfl ?_
 refine lv 0 (vS ((scalar_Norm (Sc.mk scalar_All.t (P.mk x0 x1) scalar_All.s)).1)) rfl rfl (by intro x hx; obtain ⟨f0, f1, f2, f3, f4, f5⟩ := hx.six 2 0 rfl rfl; go_simp; all_goals exact rfl) ?_
 simp only [sA, sB, vS]
 refine ls 1 0 0 (cS ((scalar_Norm (Sc.mk scalar_All.t (P.mk x0 x1) scalar_All.s)).1)) rfl rfl rfl (by intro x hx; obtain ⟨⟨_, z0, q0⟩, ⟨_, z1, q1⟩, ⟨_, z2, q2⟩, ⟨_, z3, q3⟩, ⟨_, z4, q4⟩, ⟨_, z5, q5⟩⟩ := hx.at6 0 0 rfl; go_simp; all_goals rfl) ?_
 simp only [Blk.putC, setM, cS, sA, sB]
 clear HS
 refine ld fun W4 HS => ?_
 go_wp2
 obtain ⟨r0, r1, r2, r3, r4, r5⟩ := HS.out.six 0 0 rfl rfl
 have HF : btw x0 x1 = (scalar_Norm (Sc.mk scalar_All.t (P.mk x0 x1) scalar_All.s)).1 := by
  unfold btw
  rfl
 exact bodyPost_ret (v := vS ((scalar_Norm (Sc.mk scalar_All.t (P.mk x0 x1) scalar_All.s)).1)) (by simp [results, Tryz.results6, go_sem, r0, r1, r2, r3, r4, r5, vS]) rfl ⟨(by first | (rw [HF]; done) | (rw [HF]; rfl)), HS.out.below⟩
end Go.Proofs.YtmcapfbkedfdkaaGreatDoor.Sp
