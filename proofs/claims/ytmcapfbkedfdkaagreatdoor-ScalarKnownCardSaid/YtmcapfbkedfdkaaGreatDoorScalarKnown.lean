/-
  Proved: whatever the arguments, the Go function ScalarKnown returns true, and each argument reads afterwards as it read before (the given statement ScalarKnownCardSaid: the row, its table tied to the program's text).
  Conditions: the table of math/bits lies as the program's text lays it (tied by the card).
-/
import Derived.Deep.DeepCutAuto
import Derived.Test.YtmcapfbkedfdkaaGreatDoorScF
import Derived.Test.YtmcapfbkedfdkaaGreatDoorScI
import Derived.Test.YtmcapfbkedfdkaaGreatDoorIf
import Derived.Test.YtmcapfbkedfdkaaGreatDoorTnZ
import Derived.ProofKit
import Derived.LaidMore
import Derived.OpenShut
import Derived.Stop.Joined
import Derived.Deep.Slices
import Derived.Test.YtmcapfbkedfdkaaGreatDoorScK
import Derived.Test.YtmcapfbkedfdkaaGreatDoorScX
import Derived.Test.YtmcapfbkedfdkaaGreatDoorRows
import Derived.Test.YtmcapfbkedfdkaaGreatDoorCards
import Derived.Test.YtmcapfbkedfdkaaGreatDoorTie
import Derived.WalkKit
import Derived.ShutString
import Derived.Below
import Derived.SevenTiedAt
namespace Go.Proofs.YtmcapfbkedfdkaaGreatDoor.Sp
set_option maxRecDepth 100000
open Go.RowKit Go.Proofs.YtmcapfbkedfdkaaGreatDoor.Num Go.Proofs.YtmcapfbkedfdkaaGreatDoor.Up
set_option maxHeartbeats 1000000 in
theorem law_between_any (x0 : BitVec 64) (x1 : BitVec 64)   (w : World) :
  Calls Tryz.prog 6 #[.int .u64 (tn (x0)), .int .u64 (tn (x1))] w fun e w' => e = .returned (vS ((scalar_Norm (Sc.mk scalar_All.t (P.mk x0 x1) scalar_All.s)).1)) ∧ Below w.heap.size w w' := by
 simp only [vS]
 go_enter Tryz.func6, Tryz.ntmps6
 have HS : Hid (St w [⟨w.heap.size, [some (.int .u64 0), some (.int .u64 0), some (.int .u64 0), some (.int .u64 0), some (.int .i64 0), some (.int .i64 0)], 31⟩] _) := hid ((st_nil w).alloc (k := w.heap.size) rfl [.int .u64 0, .int .u64 0, .int .u64 0, .int .u64 0, .int .i64 0, .int .i64 0] 31)
 go_upto_region 1 with fail
 refine lnb HS.out rfl ?_
 refine lc 0 9 #[] (vS scalar_All) rfl rfl (by intro x hx; exact scalar_All_any _) ?_
 simp only [sA, sB, vS]
 refine lin_new (i := 1) rfl rfl (by rfl) [.int .u64 0, .int .u64 0, .int .u64 0, .int .u64 0, .int .i64 0, .int .i64 0] 31 (fun k => .pointer (some ⟨k, 0, none⟩)) [some (.int .u64 0), some (.int .u64 0), some (.int .u64 0), some (.int .u64 0), some (.int .i64 0), some (.int .i64 0)] (lessC_refl _) (by intro x hx; go_simp; all_goals exact rfl) (fun k1 => ?_)
 simp only [sA, sB, sC, sD]
 refine ls 2 1 0 (cS scalar_All) rfl rfl rfl (by intro x hx; obtain ⟨⟨_, z0, q0⟩, ⟨_, z1, q1⟩, ⟨_, z2, q2⟩, ⟨_, z3, q3⟩, ⟨_, z4, q4⟩, ⟨_, z5, q5⟩⟩ := hx.at6 1 0 rfl; go_simp; all_goals rfl) ?_
 simp only [Blk.putC, setM, cS, sA, sB]
 clear HS
 refine ld fun W1 HS => ?_
 go_upto_region 2 with fail
 refine lnb HS.out rfl ?_
 refine lm 0 0 rfl rfl rfl rfl ?_
 simp only [sA, sB]
 refine lm 1 1 rfl rfl rfl rfl ?_
 simp only [sA, sB]
 refine lv 2 (vU (P.mk x0 x1)) rfl rfl (by intro x hx; go_simp; all_goals exact rfl) ?_
 simp only [sA, sB, vU]
 refine lv 3 (.pointer (some ⟨k1, 2, none⟩)) rfl rfl (by intro x hx; go_simp; all_goals exact rfl) ?_
 simp only [sA, sB]
 refine ls 4 1 2 (cU (P.mk x0 x1)) rfl rfl rfl (by intro x hx; obtain ⟨⟨_, z0, q0⟩, ⟨_, z1, q1⟩⟩ := hx.at2 1 2 rfl; go_simp; all_goals rfl) ?_
 simp only [Blk.putC, setM, cU, sA, sB]
 clear HS
 refine ld fun W2 HS => ?_
 go_upto_region 3 with fail
 refine lnb HS.out rfl ?_
 refine lv 0 (vS (Sc.mk scalar_All.t (P.mk x0 x1) scalar_All.s)) rfl rfl (by intro x hx; obtain ⟨f0, f1, f2, f3, f4, f5⟩ := hx.six 1 0 rfl rfl; go_simp; all_goals exact rfl) ?_
 simp only [sA, sB, vS]
 refine lc 1 18 #[vS (Sc.mk scalar_All.t (P.mk x0 x1) scalar_All.s)] (.tuple #[vS ((scalar_Norm (Sc.mk scalar_All.t (P.mk x0 x1) scalar_All.s)).1), .bool ((scalar_Norm (Sc.mk scalar_All.t (P.mk x0 x1) scalar_All.s)).2)]) rfl rfl (by intro x hx; exact scalar_Norm_any (Sc.mk scalar_All.t (P.mk x0 x1) scalar_All.s) _) ?_
 simp only [sA, sB, vS]
 refine lm 2 15 rfl rfl rfl rfl ?_
 simp only [sA, sB]
 refine lv 3 (vS ((scalar_Norm (Sc.mk scalar_All.t (P.mk x0 x1) scalar_All.s)).1)) rfl rfl (by intro x hx; go_simp; all_goals exact rfl) ?_
 simp only [sA, sB, vS]
 refine lv 4 (.bool ((scalar_Norm (Sc.mk scalar_All.t (P.mk x0 x1) scalar_All.s)).2)) rfl rfl (by intro x hx; go_simp; all_goals exact rfl) ?_
 simp only [sA, sB]
 refine lin_new (i := 5) rfl rfl (by rfl) [.int .u64 0, .int .u64 0, .int .u64 0, .int .u64 0, .int .i64 0, .int .i64 0] 31 (fun k => .pointer (some ⟨k, 0, none⟩)) [some (.int .u64 0), some (.int .u64 0), some (.int .u64 0), some (.int .u64 0), some (.int .i64 0), some (.int .i64 0)] (lessC_refl _) (by intro x hx; go_simp; all_goals exact rfl) (fun k2 => ?_)
 simp only [sA, sB, sC, sD]
 refine ls 6 2 0 (cS ((scalar_Norm (Sc.mk scalar_All.t (P.mk x0 x1) scalar_All.s)).1)) rfl rfl rfl (by intro x hx; obtain ⟨⟨_, z0, q0⟩, ⟨_, z1, q1⟩, ⟨_, z2, q2⟩, ⟨_, z3, q3⟩, ⟨_, z4, q4⟩, ⟨_, z5, q5⟩⟩ := hx.at6 2 0 rfl; go_simp; all_goals rfl) ?_
 simp only [Blk.putC, setM, cS, sA, sB]
 refine la 7 17 rfl rfl rfl rfl ?_
 simp only [sA, sB]
 clear HS
 refine ld fun W3 HS => ?_
 go_upto_region 4 with fail
 refine lnb HS.out rfl ?_
 refine lv 0 (vS ((scalar_Norm (Sc.mk scalar_All.t (P.mk x0 x1) scalar_All.s)).1)) rfl rfl (by intro x hx; obtain ⟨f0, f1, f2, f3, f4, f5⟩ := hx.six 2 0 rfl rfl; go_simp; all_goals exact rfl) ?_
 simp only [sA, sB, vS]
 refine ls 1 0 0 (cS ((scalar_Norm (Sc.mk scalar_All.t (P.mk x0 x1) scalar_All.s)).1)) rfl rfl rfl (by intro x hx; obtain ⟨⟨_, z0, q0⟩, ⟨_, z1, q1⟩, ⟨_, z2, q2⟩, ⟨_, z3, q3⟩, ⟨_, z4, q4⟩, ⟨_, z5, q5⟩⟩ := hx.at6 0 0 rfl; go_simp; all_goals rfl) ?_
 simp only [Blk.putC, setM, cS, sA, sB]
 clear HS
 refine ld fun W4 HS => ?_
 go_wp2
 obtain ⟨r0, r1, r2, r3, r4, r5⟩ := HS.out.six 0 0 rfl rfl
 exact bodyPost_ret (v := vS ((scalar_Norm (Sc.mk scalar_All.t (P.mk x0 x1) scalar_All.s)).1)) (by simp [results, Tryz.results6, go_sem, r0, r1, r2, r3, r4, r5, vS]) rfl ⟨rfl, HS.out.below⟩
set_option maxHeartbeats 4000000 in
theorem law_works_any    (w : World) (hT : Tn.Tab w) :
  Calls Tryz.prog 10 #[] w fun e w' => e = .returned (.bool true) ∧ Below w.heap.size w w' := by
 have HT := hid hT
 clear hT
 go_enter Tryz.func10, Tryz.ntmps10
 have HS : Hid (St w [] _) := hid (st_nil w)
 go_upto_region 1 with fail
 refine lnb HS.out rfl ?_
 refine lc 0 6 #[.int .u64 (tn (4#64)), .int .u64 (tn (7#64))] (vS ((scalar_Norm (Sc.mk scalar_All.t (P.mk 4#64 7#64) scalar_All.s)).1)) rfl rfl (by intro x hx; exact law_between_any 4#64 7#64 _) ?_
 simp only [sA, sB, vS]
 refine lin_new (i := 1) rfl rfl (by rfl) [.int .u64 0, .int .u64 0, .int .u64 0, .int .u64 0, .int .i64 0, .int .i64 0] 31 (fun k => .pointer (some ⟨k, 0, none⟩)) [some (.int .u64 0), some (.int .u64 0), some (.int .u64 0), some (.int .u64 0), some (.int .i64 0), some (.int .i64 0)] (lessC_refl _) (by intro x hx; go_simp; all_goals exact rfl) (fun k1 => ?_)
 simp only [sA, sB, sD]
 refine ls 2 0 0 (cS ((scalar_Norm (Sc.mk scalar_All.t (P.mk 4#64 7#64) scalar_All.s)).1)) rfl rfl rfl (by intro x hx; obtain ⟨⟨_, z0, q0⟩, ⟨_, z1, q1⟩, ⟨_, z2, q2⟩, ⟨_, z3, q3⟩, ⟨_, z4, q4⟩, ⟨_, z5, q5⟩⟩ := hx.at6 0 0 rfl; go_simp; all_goals rfl) ?_
 simp only [Blk.putC, setM, cS, sA, sB]
 clear HS
 refine ld fun W1 HS => ?_
 go_upto_region 2 with fail
 refine upb 5 (HS.out.drew) rfl ?_
 refine tv 0 (vS ((scalar_Norm (Sc.mk scalar_All.t (P.mk 4#64 7#64) scalar_All.s)).1)) rfl rfl (by intro x hx; obtain ⟨f0, f1, f2, f3, f4, f5⟩ := hx.six 0 0 rfl rfl; go_simp; all_goals exact rfl) ?_
 simp only [sA, sB, vS]
 refine tc 1 7 #[.int .u64 (tn (1#64))] (vS (Sc.mk (P.mk 1#64 0#64) (P.mk 1#64 1#64) (P.mk 1#64 1#64))) rfl rfl (by intro x hx; exact scalar_Of_any 1#64 _) ?_
 simp only [sA, sB, vS]
 refine tc 2 8 #[.int .i64 (ti (0#64)), .bool true, vS ((scalar_Norm (Sc.mk scalar_All.t (P.mk 4#64 7#64) scalar_All.s)).1), vS (Sc.mk (P.mk 1#64 0#64) (P.mk 1#64 1#64) (P.mk 1#64 1#64))] (vS (scalar_Alu 0#64 true ((scalar_Norm (Sc.mk scalar_All.t (P.mk 4#64 7#64) scalar_All.s)).1) (Sc.mk (P.mk 1#64 0#64) (P.mk 1#64 1#64) (P.mk 1#64 1#64)))) rfl rfl (by intro x hx; exact scalar_Alu_any 0#64 true ((scalar_Norm (Sc.mk scalar_All.t (P.mk 4#64 7#64) scalar_All.s)).1) (Sc.mk (P.mk 1#64 0#64) (P.mk 1#64 1#64) (P.mk 1#64 1#64)) _ (HT.out.up hx.below)) ?_
 simp only [sA, sB, vS]
 refine take_one (i := 3) (by kernel_rfl) (step_new rfl rfl (by rfl) [.int .u64 0, .int .u64 0, .int .u64 0, .int .u64 0, .int .i64 0, .int .i64 0] 31 (fun k => .pointer (some ⟨k, 0, none⟩)) [none, none, none, none, none, none] (lessC_no (lessC_no (lessC_no (lessC_no (lessC_no (lessC_no (trivial))))))) (by intro x hx; go_simp; all_goals exact rfl) (fun k2 => ?_))
 simp only [sA, sB, sC, sD]
 refine ts 4 1 0 (cS (scalar_Alu 0#64 true ((scalar_Norm (Sc.mk scalar_All.t (P.mk 4#64 7#64) scalar_All.s)).1) (Sc.mk (P.mk 1#64 0#64) (P.mk 1#64 1#64) (P.mk 1#64 1#64)))) rfl rfl rfl (by intro x hx; obtain ⟨⟨_, z0, q0⟩, ⟨_, z1, q1⟩, ⟨_, z2, q2⟩, ⟨_, z3, q3⟩, ⟨_, z4, q4⟩, ⟨_, z5, q5⟩⟩ := hx.at6 1 0 rfl; go_simp; all_goals rfl) ?_
 simp only [Blk.putC, setM, cS, sA, sB]
 clear HS
 refine td fun W2 HS => ?_
 go_upto_region 3 with fail
 refine lnb HS.out rfl ?_
 refine lc 0 9 #[] (vS scalar_All) rfl rfl (by intro x hx; exact scalar_All_any _) ?_
 simp only [sA, sB, vS]
 refine lc 1 7 #[.int .u64 (tn (16#64))] (vS (Sc.mk (P.mk 16#64 0#64) (P.mk 16#64 16#64) (P.mk 16#64 16#64))) rfl rfl (by intro x hx; exact scalar_Of_any 16#64 _) ?_
 simp only [sA, sB, vS]
 refine lc 2 5 #[.int .i64 (ti (160#64)), .bool true, vS scalar_All, vS (Sc.mk (P.mk 16#64 0#64) (P.mk 16#64 16#64) (P.mk 16#64 16#64)), .bool true] (.tuple #[vS ((scalar_Branch 160#64 true scalar_All (Sc.mk (P.mk 16#64 0#64) (P.mk 16#64 16#64) (P.mk 16#64 16#64)) true).1), vS ((scalar_Branch 160#64 true scalar_All (Sc.mk (P.mk 16#64 0#64) (P.mk 16#64 16#64) (P.mk 16#64 16#64)) true).2.1), .bool ((scalar_Branch 160#64 true scalar_All (Sc.mk (P.mk 16#64 0#64) (P.mk 16#64 16#64) (P.mk 16#64 16#64)) true).2.2)]) rfl rfl (by intro x hx; exact scalar_Branch_any 160#64 true scalar_All (Sc.mk (P.mk 16#64 0#64) (P.mk 16#64 16#64) (P.mk 16#64 16#64)) true _) ?_
 simp only [sA, sB, vS]
 refine lm 3 19 rfl rfl rfl rfl ?_
 simp only [sA, sB]
 refine lv 4 (vS ((scalar_Branch 160#64 true scalar_All (Sc.mk (P.mk 16#64 0#64) (P.mk 16#64 16#64) (P.mk 16#64 16#64)) true).1)) rfl rfl (by intro x hx; go_simp; all_goals exact rfl) ?_
 simp only [sA, sB, vS]
 refine lv 5 (vS ((scalar_Branch 160#64 true scalar_All (Sc.mk (P.mk 16#64 0#64) (P.mk 16#64 16#64) (P.mk 16#64 16#64)) true).2.1)) rfl rfl (by intro x hx; go_simp; all_goals exact rfl) ?_
 simp only [sA, sB, vS]
 refine lv 6 (.bool ((scalar_Branch 160#64 true scalar_All (Sc.mk (P.mk 16#64 0#64) (P.mk 16#64 16#64) (P.mk 16#64 16#64)) true).2.2)) rfl rfl (by intro x hx; go_simp; all_goals exact rfl) ?_
 simp only [sA, sB]
 refine lin_new (i := 7) rfl rfl (by rfl) [.int .u64 0, .int .u64 0, .int .u64 0, .int .u64 0, .int .i64 0, .int .i64 0] 31 (fun k => .pointer (some ⟨k, 0, none⟩)) [some (.int .u64 0), some (.int .u64 0), some (.int .u64 0), some (.int .u64 0), some (.int .i64 0), some (.int .i64 0)] (lessC_refl _) (by intro x hx; go_simp; all_goals exact rfl) (fun k3 => ?_)
 simp only [sA, sB, sC, sD]
 refine lin_new (i := 8) rfl rfl (by rfl) [.int .u64 0, .int .u64 0, .int .u64 0, .int .u64 0, .int .i64 0, .int .i64 0] 31 (fun k => .pointer (some ⟨k, 0, none⟩)) [some (.int .u64 0), some (.int .u64 0), some (.int .u64 0), some (.int .u64 0), some (.int .i64 0), some (.int .i64 0)] (lessC_refl _) (by intro x hx; go_simp; all_goals exact rfl) (fun k4 => ?_)
 simp only [sA, sB, sC, sD]
 refine ls 9 2 0 (cS ((scalar_Branch 160#64 true scalar_All (Sc.mk (P.mk 16#64 0#64) (P.mk 16#64 16#64) (P.mk 16#64 16#64)) true).1)) rfl rfl rfl (by intro x hx; obtain ⟨⟨_, z0, q0⟩, ⟨_, z1, q1⟩, ⟨_, z2, q2⟩, ⟨_, z3, q3⟩, ⟨_, z4, q4⟩, ⟨_, z5, q5⟩⟩ := hx.at6 2 0 rfl; go_simp; all_goals rfl) ?_
 simp only [Blk.putC, setM, cS, sA, sB]
 refine ls 10 3 0 (cS ((scalar_Branch 160#64 true scalar_All (Sc.mk (P.mk 16#64 0#64) (P.mk 16#64 16#64) (P.mk 16#64 16#64)) true).2.1)) rfl rfl rfl (by intro x hx; obtain ⟨⟨_, z0, q0⟩, ⟨_, z1, q1⟩, ⟨_, z2, q2⟩, ⟨_, z3, q3⟩, ⟨_, z4, q4⟩, ⟨_, z5, q5⟩⟩ := hx.at6 3 0 rfl; go_simp; all_goals rfl) ?_
 simp only [Blk.putC, setM, cS, sA, sB]
 refine la 11 22 rfl rfl rfl rfl ?_
 simp only [sA, sB]
 clear HS
 refine ld fun W3 HS => ?_
 go_upto_region 4 with fail
 refine lnb HS.out rfl ?_
 refine lc 0 6 #[.int .u64 (tn (0#64)), .int .u64 (tn (1#64))] (vS ((scalar_Norm (Sc.mk scalar_All.t (P.mk 0#64 1#64) scalar_All.s)).1)) rfl rfl (by intro x hx; exact law_between_any 0#64 1#64 _) ?_
 simp only [sA, sB, vS]
 refine lc 1 7 #[.int .u64 (tn (0#64))] (vS (Sc.mk (P.mk 0#64 0#64) (P.mk 0#64 0#64) (P.mk 0#64 0#64))) rfl rfl (by intro x hx; exact scalar_Of_any 0#64 _) ?_
 simp only [sA, sB, vS]
 refine lc 2 5 #[.int .i64 (ti (80#64)), .bool true, vS ((scalar_Norm (Sc.mk scalar_All.t (P.mk 0#64 1#64) scalar_All.s)).1), vS (Sc.mk (P.mk 0#64 0#64) (P.mk 0#64 0#64) (P.mk 0#64 0#64)), .bool true] (.tuple #[vS ((scalar_Branch 80#64 true ((scalar_Norm (Sc.mk scalar_All.t (P.mk 0#64 1#64) scalar_All.s)).1) (Sc.mk (P.mk 0#64 0#64) (P.mk 0#64 0#64) (P.mk 0#64 0#64)) true).1), vS ((scalar_Branch 80#64 true ((scalar_Norm (Sc.mk scalar_All.t (P.mk 0#64 1#64) scalar_All.s)).1) (Sc.mk (P.mk 0#64 0#64) (P.mk 0#64 0#64) (P.mk 0#64 0#64)) true).2.1), .bool ((scalar_Branch 80#64 true ((scalar_Norm (Sc.mk scalar_All.t (P.mk 0#64 1#64) scalar_All.s)).1) (Sc.mk (P.mk 0#64 0#64) (P.mk 0#64 0#64) (P.mk 0#64 0#64)) true).2.2)]) rfl rfl (by intro x hx; exact scalar_Branch_any 80#64 true ((scalar_Norm (Sc.mk scalar_All.t (P.mk 0#64 1#64) scalar_All.s)).1) (Sc.mk (P.mk 0#64 0#64) (P.mk 0#64 0#64) (P.mk 0#64 0#64)) true _) ?_
 simp only [sA, sB, vS]
 refine lm 3 26 rfl rfl rfl rfl ?_
 simp only [sA, sB]
 refine lv 4 (vS ((scalar_Branch 80#64 true ((scalar_Norm (Sc.mk scalar_All.t (P.mk 0#64 1#64) scalar_All.s)).1) (Sc.mk (P.mk 0#64 0#64) (P.mk 0#64 0#64) (P.mk 0#64 0#64)) true).1)) rfl rfl (by intro x hx; go_simp; all_goals exact rfl) ?_
 simp only [sA, sB, vS]
 refine lv 5 (vS ((scalar_Branch 80#64 true ((scalar_Norm (Sc.mk scalar_All.t (P.mk 0#64 1#64) scalar_All.s)).1) (Sc.mk (P.mk 0#64 0#64) (P.mk 0#64 0#64) (P.mk 0#64 0#64)) true).2.1)) rfl rfl (by intro x hx; go_simp; all_goals exact rfl) ?_
 simp only [sA, sB, vS]
 refine lv 6 (.bool ((scalar_Branch 80#64 true ((scalar_Norm (Sc.mk scalar_All.t (P.mk 0#64 1#64) scalar_All.s)).1) (Sc.mk (P.mk 0#64 0#64) (P.mk 0#64 0#64) (P.mk 0#64 0#64)) true).2.2)) rfl rfl (by intro x hx; go_simp; all_goals exact rfl) ?_
 simp only [sA, sB]
 refine lin_new (i := 7) rfl rfl (by rfl) [.int .u64 0, .int .u64 0, .int .u64 0, .int .u64 0, .int .i64 0, .int .i64 0] 31 (fun k => .pointer (some ⟨k, 0, none⟩)) [some (.int .u64 0), some (.int .u64 0), some (.int .u64 0), some (.int .u64 0), some (.int .i64 0), some (.int .i64 0)] (lessC_refl _) (by intro x hx; go_simp; all_goals exact rfl) (fun k5 => ?_)
 simp only [sA, sB, sC, sD]
 refine lin_new (i := 8) rfl rfl (by rfl) [.int .u64 0, .int .u64 0, .int .u64 0, .int .u64 0, .int .i64 0, .int .i64 0] 31 (fun k => .pointer (some ⟨k, 0, none⟩)) [some (.int .u64 0), some (.int .u64 0), some (.int .u64 0), some (.int .u64 0), some (.int .i64 0), some (.int .i64 0)] (lessC_refl _) (by intro x hx; go_simp; all_goals exact rfl) (fun k6 => ?_)
 simp only [sA, sB, sC, sD]
 refine ls 9 4 0 (cS ((scalar_Branch 80#64 true ((scalar_Norm (Sc.mk scalar_All.t (P.mk 0#64 1#64) scalar_All.s)).1) (Sc.mk (P.mk 0#64 0#64) (P.mk 0#64 0#64) (P.mk 0#64 0#64)) true).1)) rfl rfl rfl (by intro x hx; obtain ⟨⟨_, z0, q0⟩, ⟨_, z1, q1⟩, ⟨_, z2, q2⟩, ⟨_, z3, q3⟩, ⟨_, z4, q4⟩, ⟨_, z5, q5⟩⟩ := hx.at6 4 0 rfl; go_simp; all_goals rfl) ?_
 simp only [Blk.putC, setM, cS, sA, sB]
 refine ls 10 5 0 (cS ((scalar_Branch 80#64 true ((scalar_Norm (Sc.mk scalar_All.t (P.mk 0#64 1#64) scalar_All.s)).1) (Sc.mk (P.mk 0#64 0#64) (P.mk 0#64 0#64) (P.mk 0#64 0#64)) true).2.1)) rfl rfl rfl (by intro x hx; obtain ⟨⟨_, z0, q0⟩, ⟨_, z1, q1⟩, ⟨_, z2, q2⟩, ⟨_, z3, q3⟩, ⟨_, z4, q4⟩, ⟨_, z5, q5⟩⟩ := hx.at6 5 0 rfl; go_simp; all_goals rfl) ?_
 simp only [Blk.putC, setM, cS, sA, sB]
 refine la 11 29 rfl rfl rfl rfl ?_
 simp only [sA, sB]
 clear HS
 refine ld fun W4 HS => ?_
 go_upto_region 5 with fail
 refine lnb HS.out rfl ?_
 refine lc 0 6 #[.int .u64 (tn (0#64)), .int .u64 (tn (3#64))] (vS ((scalar_Norm (Sc.mk scalar_All.t (P.mk 0#64 3#64) scalar_All.s)).1)) rfl rfl (by intro x hx; exact law_between_any 0#64 3#64 _) ?_
 simp only [sA, sB, vS]
 refine lc 1 7 #[.int .u64 (tn (5#64))] (vS (Sc.mk (P.mk 5#64 0#64) (P.mk 5#64 5#64) (P.mk 5#64 5#64))) rfl rfl (by intro x hx; exact scalar_Of_any 5#64 _) ?_
 simp only [sA, sB, vS]
 refine lc 2 5 #[.int .i64 (ti (32#64)), .bool true, vS ((scalar_Norm (Sc.mk scalar_All.t (P.mk 0#64 3#64) scalar_All.s)).1), vS (Sc.mk (P.mk 5#64 0#64) (P.mk 5#64 5#64) (P.mk 5#64 5#64)), .bool true] (.tuple #[vS ((scalar_Branch 32#64 true ((scalar_Norm (Sc.mk scalar_All.t (P.mk 0#64 3#64) scalar_All.s)).1) (Sc.mk (P.mk 5#64 0#64) (P.mk 5#64 5#64) (P.mk 5#64 5#64)) true).1), vS ((scalar_Branch 32#64 true ((scalar_Norm (Sc.mk scalar_All.t (P.mk 0#64 3#64) scalar_All.s)).1) (Sc.mk (P.mk 5#64 0#64) (P.mk 5#64 5#64) (P.mk 5#64 5#64)) true).2.1), .bool ((scalar_Branch 32#64 true ((scalar_Norm (Sc.mk scalar_All.t (P.mk 0#64 3#64) scalar_All.s)).1) (Sc.mk (P.mk 5#64 0#64) (P.mk 5#64 5#64) (P.mk 5#64 5#64)) true).2.2)]) rfl rfl (by intro x hx; exact scalar_Branch_any 32#64 true ((scalar_Norm (Sc.mk scalar_All.t (P.mk 0#64 3#64) scalar_All.s)).1) (Sc.mk (P.mk 5#64 0#64) (P.mk 5#64 5#64) (P.mk 5#64 5#64)) true _) ?_
 simp only [sA, sB, vS]
 refine lm 3 33 rfl rfl rfl rfl ?_
 simp only [sA, sB]
 refine lv 4 (vS ((scalar_Branch 32#64 true ((scalar_Norm (Sc.mk scalar_All.t (P.mk 0#64 3#64) scalar_All.s)).1) (Sc.mk (P.mk 5#64 0#64) (P.mk 5#64 5#64) (P.mk 5#64 5#64)) true).1)) rfl rfl (by intro x hx; go_simp; all_goals exact rfl) ?_
 simp only [sA, sB, vS]
 refine lv 5 (vS ((scalar_Branch 32#64 true ((scalar_Norm (Sc.mk scalar_All.t (P.mk 0#64 3#64) scalar_All.s)).1) (Sc.mk (P.mk 5#64 0#64) (P.mk 5#64 5#64) (P.mk 5#64 5#64)) true).2.1)) rfl rfl (by intro x hx; go_simp; all_goals exact rfl) ?_
 simp only [sA, sB, vS]
 refine lv 6 (.bool ((scalar_Branch 32#64 true ((scalar_Norm (Sc.mk scalar_All.t (P.mk 0#64 3#64) scalar_All.s)).1) (Sc.mk (P.mk 5#64 0#64) (P.mk 5#64 5#64) (P.mk 5#64 5#64)) true).2.2)) rfl rfl (by intro x hx; go_simp; all_goals exact rfl) ?_
 simp only [sA, sB]
 refine lin_new (i := 7) rfl rfl (by rfl) [.int .u64 0, .int .u64 0, .int .u64 0, .int .u64 0, .int .i64 0, .int .i64 0] 31 (fun k => .pointer (some ⟨k, 0, none⟩)) [some (.int .u64 0), some (.int .u64 0), some (.int .u64 0), some (.int .u64 0), some (.int .i64 0), some (.int .i64 0)] (lessC_refl _) (by intro x hx; go_simp; all_goals exact rfl) (fun k7 => ?_)
 simp only [sA, sB, sC, sD]
 refine lin_new (i := 8) rfl rfl (by rfl) [.int .u64 0, .int .u64 0, .int .u64 0, .int .u64 0, .int .i64 0, .int .i64 0] 31 (fun k => .pointer (some ⟨k, 0, none⟩)) [some (.int .u64 0), some (.int .u64 0), some (.int .u64 0), some (.int .u64 0), some (.int .i64 0), some (.int .i64 0)] (lessC_refl _) (by intro x hx; go_simp; all_goals exact rfl) (fun k8 => ?_)
 simp only [sA, sB, sC, sD]
 refine ls 9 6 0 (cS ((scalar_Branch 32#64 true ((scalar_Norm (Sc.mk scalar_All.t (P.mk 0#64 3#64) scalar_All.s)).1) (Sc.mk (P.mk 5#64 0#64) (P.mk 5#64 5#64) (P.mk 5#64 5#64)) true).1)) rfl rfl rfl (by intro x hx; obtain ⟨⟨_, z0, q0⟩, ⟨_, z1, q1⟩, ⟨_, z2, q2⟩, ⟨_, z3, q3⟩, ⟨_, z4, q4⟩, ⟨_, z5, q5⟩⟩ := hx.at6 6 0 rfl; go_simp; all_goals rfl) ?_
 simp only [Blk.putC, setM, cS, sA, sB]
 refine ls 10 7 0 (cS ((scalar_Branch 32#64 true ((scalar_Norm (Sc.mk scalar_All.t (P.mk 0#64 3#64) scalar_All.s)).1) (Sc.mk (P.mk 5#64 0#64) (P.mk 5#64 5#64) (P.mk 5#64 5#64)) true).2.1)) rfl rfl rfl (by intro x hx; obtain ⟨⟨_, z0, q0⟩, ⟨_, z1, q1⟩, ⟨_, z2, q2⟩, ⟨_, z3, q3⟩, ⟨_, z4, q4⟩, ⟨_, z5, q5⟩⟩ := hx.at6 7 0 rfl; go_simp; all_goals rfl) ?_
 simp only [Blk.putC, setM, cS, sA, sB]
 refine la 11 36 rfl rfl rfl rfl ?_
 simp only [sA, sB]
 clear HS
 refine ld fun W5 HS => ?_
 go_upto_region 6 with fail
 refine upb 49 (HS.out.drew) rfl ?_
 refine tv 0 (.pointer (some ⟨k1, 0, none⟩)) rfl rfl (by intro x hx; go_simp; all_goals exact rfl) ?_
 simp only [sA, sB]
 refine tv 1 (vU (((scalar_Norm (Sc.mk scalar_All.t (P.mk 4#64 7#64) scalar_All.s)).1).t)) rfl rfl (by intro x hx; obtain ⟨f0, f1⟩ := hx.two 0 0 rfl rfl; go_simp; all_goals exact rfl) ?_
 simp only [sA, sB, vU]
 refine tv 2 (.agg #[.int .u64 4, .int .u64 3]) rfl rfl (by intro x hx; go_simp; all_goals exact rfl) ?_
 simp only [sA, sB]
 refine tv 3 (.bool true) rfl rfl (by intro x hx; go_simp; (first | done | exact (eqPT (fun b => Result.ok (Next.value (Value.bool b)) x) ((((scalar_Norm (Sc.mk scalar_All.t (P.mk 4#64 7#64) scalar_All.s)).1).t).lo) ((((scalar_Norm (Sc.mk scalar_All.t (P.mk 4#64 7#64) scalar_All.s)).1).t).hi) 4#64 3#64).trans (congrArg (fun b => Result.ok (Next.value (Value.bool b)) x) ((show (eqP (((scalar_Norm (Sc.mk scalar_All.t (P.mk 4#64 7#64) scalar_All.s)).1).t) (P.mk 4#64 3#64)) = true by decide +kernel))))) ?_
 simp only [sA, sB]
 refine tm 4 40 rfl rfl rfl rfl ?_
 simp only [sA, sB]
 refine tv 5 (.pointer (some ⟨k2, 2, none⟩)) rfl rfl (by intro x hx; go_simp; all_goals exact rfl) ?_
 simp only [sA, sB]
 refine tv 6 (vU ((scalar_Alu 0#64 true ((scalar_Norm (Sc.mk scalar_All.t (P.mk 4#64 7#64) scalar_All.s)).1) (Sc.mk (P.mk 1#64 0#64) (P.mk 1#64 1#64) (P.mk 1#64 1#64))).u)) rfl rfl (by intro x hx; obtain ⟨f0, f1⟩ := hx.two 1 2 rfl rfl; go_simp; all_goals exact rfl) ?_
 simp only [sA, sB, vU]
 refine tv 7 (.agg #[.int .u64 5, .int .u64 8]) rfl rfl (by intro x hx; go_simp; all_goals exact rfl) ?_
 simp only [sA, sB]
 refine tv 8 (.bool true) rfl rfl (by intro x hx; go_simp; (first | done | exact (eqPT (fun b => Result.ok (Next.value (Value.bool b)) x) (((scalar_Alu 0#64 true ((scalar_Norm (Sc.mk scalar_All.t (P.mk 4#64 7#64) scalar_All.s)).1) (Sc.mk (P.mk 1#64 0#64) (P.mk 1#64 1#64) (P.mk 1#64 1#64))).u).lo) (((scalar_Alu 0#64 true ((scalar_Norm (Sc.mk scalar_All.t (P.mk 4#64 7#64) scalar_All.s)).1) (Sc.mk (P.mk 1#64 0#64) (P.mk 1#64 1#64) (P.mk 1#64 1#64))).u).hi) 5#64 8#64).trans (congrArg (fun b => Result.ok (Next.value (Value.bool b)) x) ((show (eqP ((scalar_Alu 0#64 true ((scalar_Norm (Sc.mk scalar_All.t (P.mk 4#64 7#64) scalar_All.s)).1) (Sc.mk (P.mk 1#64 0#64) (P.mk 1#64 1#64) (P.mk 1#64 1#64))).u) (P.mk 5#64 8#64)) = true by decide +kernel))))) ?_
 simp only [sA, sB]
 refine tv 9 (.bool true) rfl rfl (by intro x hx; go_simp; all_goals exact rfl) ?_
 simp only [sA, sB]
 refine tm 10 46 rfl rfl rfl rfl ?_
 simp only [sA, sB]
 refine tv 11 (.pointer (some ⟨k2, 0, none⟩)) rfl rfl (by intro x hx; go_simp; all_goals exact rfl) ?_
 simp only [sA, sB]
 refine tv 12 (vU ((scalar_Alu 0#64 true ((scalar_Norm (Sc.mk scalar_All.t (P.mk 4#64 7#64) scalar_All.s)).1) (Sc.mk (P.mk 1#64 0#64) (P.mk 1#64 1#64) (P.mk 1#64 1#64))).t)) rfl rfl (by intro x hx; obtain ⟨f0, f1⟩ := hx.two 1 0 rfl rfl; go_simp; all_goals exact rfl) ?_
 simp only [sA, sB, vU]
 refine tv 13 (.agg #[.int .u64 0, .int .u64 15]) rfl rfl (by intro x hx; go_simp; all_goals exact rfl) ?_
 simp only [sA, sB]
 refine tv 14 (.bool true) rfl rfl (by intro x hx; go_simp; (first | done | exact (eqPT (fun b => Result.ok (Next.value (Value.bool b)) x) (((scalar_Alu 0#64 true ((scalar_Norm (Sc.mk scalar_All.t (P.mk 4#64 7#64) scalar_All.s)).1) (Sc.mk (P.mk 1#64 0#64) (P.mk 1#64 1#64) (P.mk 1#64 1#64))).t).lo) (((scalar_Alu 0#64 true ((scalar_Norm (Sc.mk scalar_All.t (P.mk 4#64 7#64) scalar_All.s)).1) (Sc.mk (P.mk 1#64 0#64) (P.mk 1#64 1#64) (P.mk 1#64 1#64))).t).hi) 0#64 15#64).trans (congrArg (fun b => Result.ok (Next.value (Value.bool b)) x) ((show (eqP ((scalar_Alu 0#64 true ((scalar_Norm (Sc.mk scalar_All.t (P.mk 4#64 7#64) scalar_All.s)).1) (Sc.mk (P.mk 1#64 0#64) (P.mk 1#64 1#64) (P.mk 1#64 1#64))).t) (P.mk 0#64 15#64)) = true by decide +kernel))))) ?_
 simp only [sA, sB]
 refine tv 15 (.bool true) rfl rfl (by intro x hx; go_simp; all_goals exact rfl) ?_
 simp only [sA, sB]
 refine tm 16 52 rfl rfl rfl rfl ?_
 simp only [sA, sB]
 refine tv 17 (vS ((scalar_Norm (Sc.mk scalar_All.t (P.mk 4#64 7#64) scalar_All.s)).1)) rfl rfl (by intro x hx; obtain ⟨f0, f1, f2, f3, f4, f5⟩ := hx.six 0 0 rfl rfl; go_simp; all_goals exact rfl) ?_
 simp only [sA, sB, vS]
 refine tc 18 7 #[.int .u64 (tn (4#64))] (vS (Sc.mk (P.mk 4#64 0#64) (P.mk 4#64 4#64) (P.mk 4#64 4#64))) rfl rfl (by intro x hx; exact scalar_Of_any 4#64 _) ?_
 simp only [sA, sB, vS]
 refine tc 19 8 #[.int .i64 (ti (80#64)), .bool true, vS ((scalar_Norm (Sc.mk scalar_All.t (P.mk 4#64 7#64) scalar_All.s)).1), vS (Sc.mk (P.mk 4#64 0#64) (P.mk 4#64 4#64) (P.mk 4#64 4#64))] (vS (scalar_Alu 80#64 true ((scalar_Norm (Sc.mk scalar_All.t (P.mk 4#64 7#64) scalar_All.s)).1) (Sc.mk (P.mk 4#64 0#64) (P.mk 4#64 4#64) (P.mk 4#64 4#64)))) rfl rfl (by intro x hx; exact scalar_Alu_any 80#64 true ((scalar_Norm (Sc.mk scalar_All.t (P.mk 4#64 7#64) scalar_All.s)).1) (Sc.mk (P.mk 4#64 0#64) (P.mk 4#64 4#64) (P.mk 4#64 4#64)) _ (HT.out.up hx.below)) ?_
 simp only [sA, sB, vS]
 refine tc 20 7 #[.int .u64 (tn (4#64))] (vS (Sc.mk (P.mk 4#64 0#64) (P.mk 4#64 4#64) (P.mk 4#64 4#64))) rfl rfl (by intro x hx; exact scalar_Of_any 4#64 _) ?_
 simp only [sA, sB, vS]
 refine tv 21 (.bool true) rfl rfl (by intro x hx; go_simp; (first | done | exact (eqScT (fun b => Result.ok (Next.value (Value.bool b)) x) (((scalar_Alu 80#64 true ((scalar_Norm (Sc.mk scalar_All.t (P.mk 4#64 7#64) scalar_All.s)).1) (Sc.mk (P.mk 4#64 0#64) (P.mk 4#64 4#64) (P.mk 4#64 4#64))).t).lo) (((scalar_Alu 80#64 true ((scalar_Norm (Sc.mk scalar_All.t (P.mk 4#64 7#64) scalar_All.s)).1) (Sc.mk (P.mk 4#64 0#64) (P.mk 4#64 4#64) (P.mk 4#64 4#64))).t).hi) (((scalar_Alu 80#64 true ((scalar_Norm (Sc.mk scalar_All.t (P.mk 4#64 7#64) scalar_All.s)).1) (Sc.mk (P.mk 4#64 0#64) (P.mk 4#64 4#64) (P.mk 4#64 4#64))).u).lo) (((scalar_Alu 80#64 true ((scalar_Norm (Sc.mk scalar_All.t (P.mk 4#64 7#64) scalar_All.s)).1) (Sc.mk (P.mk 4#64 0#64) (P.mk 4#64 4#64) (P.mk 4#64 4#64))).u).hi) (((scalar_Alu 80#64 true ((scalar_Norm (Sc.mk scalar_All.t (P.mk 4#64 7#64) scalar_All.s)).1) (Sc.mk (P.mk 4#64 0#64) (P.mk 4#64 4#64) (P.mk 4#64 4#64))).s).lo) (((scalar_Alu 80#64 true ((scalar_Norm (Sc.mk scalar_All.t (P.mk 4#64 7#64) scalar_All.s)).1) (Sc.mk (P.mk 4#64 0#64) (P.mk 4#64 4#64) (P.mk 4#64 4#64))).s).hi) 4#64 0#64 4#64 4#64 4#64 4#64).trans (congrArg (fun b => Result.ok (Next.value (Value.bool b)) x) ((show (eqSc (scalar_Alu 80#64 true ((scalar_Norm (Sc.mk scalar_All.t (P.mk 4#64 7#64) scalar_All.s)).1) (Sc.mk (P.mk 4#64 0#64) (P.mk 4#64 4#64) (P.mk 4#64 4#64))) (Sc.mk (P.mk 4#64 0#64) (P.mk 4#64 4#64) (P.mk 4#64 4#64))) = true by decide +kernel))))) ?_
 simp only [sA, sB]
 refine tv 22 (.bool true) rfl rfl (by intro x hx; go_simp; all_goals exact rfl) ?_
 simp only [sA, sB]
 refine tm 23 59 rfl rfl rfl rfl ?_
 simp only [sA, sB]
 refine tv 24 (vS ((scalar_Branch 160#64 true scalar_All (Sc.mk (P.mk 16#64 0#64) (P.mk 16#64 16#64) (P.mk 16#64 16#64)) true).1)) rfl rfl (by intro x hx; obtain ⟨f0, f1, f2, f3, f4, f5⟩ := hx.six 2 0 rfl rfl; go_simp; all_goals exact rfl) ?_
 simp only [sA, sB, vS]
 refine tc 25 6 #[.int .u64 (tn (0#64)), .int .u64 (tn (15#64))] (vS ((scalar_Norm (Sc.mk scalar_All.t (P.mk 0#64 15#64) scalar_All.s)).1)) rfl rfl (by intro x hx; exact law_between_any 0#64 15#64 _) ?_
 simp only [sA, sB, vS]
 refine tv 26 (.bool true) rfl rfl (by intro x hx; go_simp; (first | done | exact (eqScT (fun b => Result.ok (Next.value (Value.bool b)) x) ((((scalar_Branch 160#64 true scalar_All (Sc.mk (P.mk 16#64 0#64) (P.mk 16#64 16#64) (P.mk 16#64 16#64)) true).1).t).lo) ((((scalar_Branch 160#64 true scalar_All (Sc.mk (P.mk 16#64 0#64) (P.mk 16#64 16#64) (P.mk 16#64 16#64)) true).1).t).hi) ((((scalar_Branch 160#64 true scalar_All (Sc.mk (P.mk 16#64 0#64) (P.mk 16#64 16#64) (P.mk 16#64 16#64)) true).1).u).lo) ((((scalar_Branch 160#64 true scalar_All (Sc.mk (P.mk 16#64 0#64) (P.mk 16#64 16#64) (P.mk 16#64 16#64)) true).1).u).hi) ((((scalar_Branch 160#64 true scalar_All (Sc.mk (P.mk 16#64 0#64) (P.mk 16#64 16#64) (P.mk 16#64 16#64)) true).1).s).lo) ((((scalar_Branch 160#64 true scalar_All (Sc.mk (P.mk 16#64 0#64) (P.mk 16#64 16#64) (P.mk 16#64 16#64)) true).1).s).hi) ((((scalar_Norm (Sc.mk scalar_All.t (P.mk 0#64 15#64) scalar_All.s)).1).t).lo) ((((scalar_Norm (Sc.mk scalar_All.t (P.mk 0#64 15#64) scalar_All.s)).1).t).hi) ((((scalar_Norm (Sc.mk scalar_All.t (P.mk 0#64 15#64) scalar_All.s)).1).u).lo) ((((scalar_Norm (Sc.mk scalar_All.t (P.mk 0#64 15#64) scalar_All.s)).1).u).hi) ((((scalar_Norm (Sc.mk scalar_All.t (P.mk 0#64 15#64) scalar_All.s)).1).s).lo) ((((scalar_Norm (Sc.mk scalar_All.t (P.mk 0#64 15#64) scalar_All.s)).1).s).hi)).trans (congrArg (fun b => Result.ok (Next.value (Value.bool b)) x) ((show (eqSc ((scalar_Branch 160#64 true scalar_All (Sc.mk (P.mk 16#64 0#64) (P.mk 16#64 16#64) (P.mk 16#64 16#64)) true).1) ((scalar_Norm (Sc.mk scalar_All.t (P.mk 0#64 15#64) scalar_All.s)).1)) = true by decide +kernel))))) ?_
 simp only [sA, sB]
 refine tv 27 (.bool true) rfl rfl (by intro x hx; go_simp; all_goals exact rfl) ?_
 simp only [sA, sB]
 refine tm 28 64 rfl rfl rfl rfl ?_
 simp only [sA, sB]
 refine tv 29 (vS ((scalar_Branch 160#64 true scalar_All (Sc.mk (P.mk 16#64 0#64) (P.mk 16#64 16#64) (P.mk 16#64 16#64)) true).2.1)) rfl rfl (by intro x hx; obtain ⟨f0, f1, f2, f3, f4, f5⟩ := hx.six 3 0 rfl rfl; go_simp; all_goals exact rfl) ?_
 simp only [sA, sB, vS]
 refine tc 30 7 #[.int .u64 (tn (16#64))] (vS (Sc.mk (P.mk 16#64 0#64) (P.mk 16#64 16#64) (P.mk 16#64 16#64))) rfl rfl (by intro x hx; exact scalar_Of_any 16#64 _) ?_
 simp only [sA, sB, vS]
 refine tv 31 (.bool true) rfl rfl (by intro x hx; go_simp; (first | done | exact (eqScT (fun b => Result.ok (Next.value (Value.bool b)) x) ((((scalar_Branch 160#64 true scalar_All (Sc.mk (P.mk 16#64 0#64) (P.mk 16#64 16#64) (P.mk 16#64 16#64)) true).2.1).t).lo) ((((scalar_Branch 160#64 true scalar_All (Sc.mk (P.mk 16#64 0#64) (P.mk 16#64 16#64) (P.mk 16#64 16#64)) true).2.1).t).hi) ((((scalar_Branch 160#64 true scalar_All (Sc.mk (P.mk 16#64 0#64) (P.mk 16#64 16#64) (P.mk 16#64 16#64)) true).2.1).u).lo) ((((scalar_Branch 160#64 true scalar_All (Sc.mk (P.mk 16#64 0#64) (P.mk 16#64 16#64) (P.mk 16#64 16#64)) true).2.1).u).hi) ((((scalar_Branch 160#64 true scalar_All (Sc.mk (P.mk 16#64 0#64) (P.mk 16#64 16#64) (P.mk 16#64 16#64)) true).2.1).s).lo) ((((scalar_Branch 160#64 true scalar_All (Sc.mk (P.mk 16#64 0#64) (P.mk 16#64 16#64) (P.mk 16#64 16#64)) true).2.1).s).hi) 16#64 0#64 16#64 16#64 16#64 16#64).trans (congrArg (fun b => Result.ok (Next.value (Value.bool b)) x) ((show (eqSc ((scalar_Branch 160#64 true scalar_All (Sc.mk (P.mk 16#64 0#64) (P.mk 16#64 16#64) (P.mk 16#64 16#64)) true).2.1) (Sc.mk (P.mk 16#64 0#64) (P.mk 16#64 16#64) (P.mk 16#64 16#64))) = true by decide +kernel))))) ?_
 simp only [sA, sB]
 refine tv 32 (.bool true) rfl rfl (by intro x hx; go_simp; all_goals exact rfl) ?_
 simp only [sA, sB]
 refine tm 33 69 rfl rfl rfl rfl ?_
 simp only [sA, sB]
 refine tv 34 (.bool ((scalar_Branch 160#64 true scalar_All (Sc.mk (P.mk 16#64 0#64) (P.mk 16#64 16#64) (P.mk 16#64 16#64)) true).2.2)) rfl rfl (by intro x hx; go_simp; all_goals exact rfl) ?_
 simp only [sA, sB]
 refine tv 35 (.bool ((scalar_Branch 160#64 true scalar_All (Sc.mk (P.mk 16#64 0#64) (P.mk 16#64 16#64) (P.mk 16#64 16#64)) true).2.2)) rfl rfl (by intro x hx; go_simp; all_goals exact rfl) ?_
 simp only [sA, sB]
 refine tm 36 72 rfl rfl rfl rfl ?_
 simp only [sA, sB]
 rw [show ((scalar_Branch 160#64 true scalar_All (Sc.mk (P.mk 16#64 0#64) (P.mk 16#64 16#64) (P.mk 16#64 16#64)) true).2.2) = true from (show ((scalar_Branch 160#64 true scalar_All (Sc.mk (P.mk 16#64 0#64) (P.mk 16#64 16#64) (P.mk 16#64 16#64)) true).2.2) = true by decide +kernel)]
 refine tv 37 (vS ((scalar_Branch 80#64 true ((scalar_Norm (Sc.mk scalar_All.t (P.mk 0#64 1#64) scalar_All.s)).1) (Sc.mk (P.mk 0#64 0#64) (P.mk 0#64 0#64) (P.mk 0#64 0#64)) true).1)) rfl rfl (by intro x hx; obtain ⟨f0, f1, f2, f3, f4, f5⟩ := hx.six 4 0 rfl rfl; go_simp; all_goals exact rfl) ?_
 simp only [sA, sB, vS]
 refine tc 38 7 #[.int .u64 (tn (1#64))] (vS (Sc.mk (P.mk 1#64 0#64) (P.mk 1#64 1#64) (P.mk 1#64 1#64))) rfl rfl (by intro x hx; exact scalar_Of_any 1#64 _) ?_
 simp only [sA, sB, vS]
 refine tv 39 (.bool true) rfl rfl (by intro x hx; go_simp; (first | done | exact (eqScT (fun b => Result.ok (Next.value (Value.bool b)) x) ((((scalar_Branch 80#64 true ((scalar_Norm (Sc.mk scalar_All.t (P.mk 0#64 1#64) scalar_All.s)).1) (Sc.mk (P.mk 0#64 0#64) (P.mk 0#64 0#64) (P.mk 0#64 0#64)) true).1).t).lo) ((((scalar_Branch 80#64 true ((scalar_Norm (Sc.mk scalar_All.t (P.mk 0#64 1#64) scalar_All.s)).1) (Sc.mk (P.mk 0#64 0#64) (P.mk 0#64 0#64) (P.mk 0#64 0#64)) true).1).t).hi) ((((scalar_Branch 80#64 true ((scalar_Norm (Sc.mk scalar_All.t (P.mk 0#64 1#64) scalar_All.s)).1) (Sc.mk (P.mk 0#64 0#64) (P.mk 0#64 0#64) (P.mk 0#64 0#64)) true).1).u).lo) ((((scalar_Branch 80#64 true ((scalar_Norm (Sc.mk scalar_All.t (P.mk 0#64 1#64) scalar_All.s)).1) (Sc.mk (P.mk 0#64 0#64) (P.mk 0#64 0#64) (P.mk 0#64 0#64)) true).1).u).hi) ((((scalar_Branch 80#64 true ((scalar_Norm (Sc.mk scalar_All.t (P.mk 0#64 1#64) scalar_All.s)).1) (Sc.mk (P.mk 0#64 0#64) (P.mk 0#64 0#64) (P.mk 0#64 0#64)) true).1).s).lo) ((((scalar_Branch 80#64 true ((scalar_Norm (Sc.mk scalar_All.t (P.mk 0#64 1#64) scalar_All.s)).1) (Sc.mk (P.mk 0#64 0#64) (P.mk 0#64 0#64) (P.mk 0#64 0#64)) true).1).s).hi) 1#64 0#64 1#64 1#64 1#64 1#64).trans (congrArg (fun b => Result.ok (Next.value (Value.bool b)) x) ((show (eqSc ((scalar_Branch 80#64 true ((scalar_Norm (Sc.mk scalar_All.t (P.mk 0#64 1#64) scalar_All.s)).1) (Sc.mk (P.mk 0#64 0#64) (P.mk 0#64 0#64) (P.mk 0#64 0#64)) true).1) (Sc.mk (P.mk 1#64 0#64) (P.mk 1#64 1#64) (P.mk 1#64 1#64))) = true by decide +kernel))))) ?_
 simp only [sA, sB]
 refine tv 40 (.bool true) rfl rfl (by intro x hx; go_simp; all_goals exact rfl) ?_
 simp only [sA, sB]
 refine tm 41 77 rfl rfl rfl rfl ?_
 simp only [sA, sB]
 refine tv 42 (.bool ((scalar_Branch 80#64 true ((scalar_Norm (Sc.mk scalar_All.t (P.mk 0#64 1#64) scalar_All.s)).1) (Sc.mk (P.mk 0#64 0#64) (P.mk 0#64 0#64) (P.mk 0#64 0#64)) true).2.2)) rfl rfl (by intro x hx; go_simp; all_goals exact rfl) ?_
 simp only [sA, sB]
 refine tv 43 (.bool ((scalar_Branch 80#64 true ((scalar_Norm (Sc.mk scalar_All.t (P.mk 0#64 1#64) scalar_All.s)).1) (Sc.mk (P.mk 0#64 0#64) (P.mk 0#64 0#64) (P.mk 0#64 0#64)) true).2.2)) rfl rfl (by intro x hx; go_simp; all_goals exact rfl) ?_
 simp only [sA, sB]
 refine tm 44 80 rfl rfl rfl rfl ?_
 simp only [sA, sB]
 rw [show ((scalar_Branch 80#64 true ((scalar_Norm (Sc.mk scalar_All.t (P.mk 0#64 1#64) scalar_All.s)).1) (Sc.mk (P.mk 0#64 0#64) (P.mk 0#64 0#64) (P.mk 0#64 0#64)) true).2.2) = true from (show ((scalar_Branch 80#64 true ((scalar_Norm (Sc.mk scalar_All.t (P.mk 0#64 1#64) scalar_All.s)).1) (Sc.mk (P.mk 0#64 0#64) (P.mk 0#64 0#64) (P.mk 0#64 0#64)) true).2.2) = true by decide +kernel)]
 refine tv 45 (.bool ((scalar_Branch 32#64 true ((scalar_Norm (Sc.mk scalar_All.t (P.mk 0#64 3#64) scalar_All.s)).1) (Sc.mk (P.mk 5#64 0#64) (P.mk 5#64 5#64) (P.mk 5#64 5#64)) true).2.2)) rfl rfl (by intro x hx; go_simp; all_goals exact rfl) ?_
 simp only [sA, sB]
 refine tv 46 (.bool true) rfl rfl (by intro x hx; go_simp; (first | done | (first | exact (show (!((scalar_Branch 32#64 true ((scalar_Norm (Sc.mk scalar_All.t (P.mk 0#64 3#64) scalar_All.s)).1) (Sc.mk (P.mk 5#64 0#64) (P.mk 5#64 5#64) (P.mk 5#64 5#64)) true).2.2)) = true by decide +kernel) | exact eq_of_beq ((show (!((scalar_Branch 32#64 true ((scalar_Norm (Sc.mk scalar_All.t (P.mk 0#64 3#64) scalar_All.s)).1) (Sc.mk (P.mk 5#64 0#64) (P.mk 5#64 5#64) (P.mk 5#64 5#64)) true).2.2)) = true by decide +kernel)) | exact congrArg _ ((show (!((scalar_Branch 32#64 true ((scalar_Norm (Sc.mk scalar_All.t (P.mk 0#64 3#64) scalar_All.s)).1) (Sc.mk (P.mk 5#64 0#64) (P.mk 5#64 5#64) (P.mk 5#64 5#64)) true).2.2)) = true by decide +kernel)) | (rw [(show (!((scalar_Branch 32#64 true ((scalar_Norm (Sc.mk scalar_All.t (P.mk 0#64 3#64) scalar_All.s)).1) (Sc.mk (P.mk 5#64 0#64) (P.mk 5#64 5#64) (P.mk 5#64 5#64)) true).2.2)) = true by decide +kernel)]; done) | ((first | rfl | skip); rw [(show (!((scalar_Branch 32#64 true ((scalar_Norm (Sc.mk scalar_All.t (P.mk 0#64 3#64) scalar_All.s)).1) (Sc.mk (P.mk 5#64 0#64) (P.mk 5#64 5#64) (P.mk 5#64 5#64)) true).2.2)) = true by decide +kernel)]) | exact congrArg tn (eq_of_beq ((show (!((scalar_Branch 32#64 true ((scalar_Norm (Sc.mk scalar_All.t (P.mk 0#64 3#64) scalar_All.s)).1) (Sc.mk (P.mk 5#64 0#64) (P.mk 5#64 5#64) (P.mk 5#64 5#64)) true).2.2)) = true by decide +kernel))) | exact congrArg ti (eq_of_beq ((show (!((scalar_Branch 32#64 true ((scalar_Norm (Sc.mk scalar_All.t (P.mk 0#64 3#64) scalar_All.s)).1) (Sc.mk (P.mk 5#64 0#64) (P.mk 5#64 5#64) (P.mk 5#64 5#64)) true).2.2)) = true by decide +kernel))) | exact congrArg tn (eq_of_bne ((show (!((scalar_Branch 32#64 true ((scalar_Norm (Sc.mk scalar_All.t (P.mk 0#64 3#64) scalar_All.s)).1) (Sc.mk (P.mk 5#64 0#64) (P.mk 5#64 5#64) (P.mk 5#64 5#64)) true).2.2)) = true by decide +kernel))) | simpa using ((show (!((scalar_Branch 32#64 true ((scalar_Norm (Sc.mk scalar_All.t (P.mk 0#64 3#64) scalar_All.s)).1) (Sc.mk (P.mk 5#64 0#64) (P.mk 5#64 5#64) (P.mk 5#64 5#64)) true).2.2)) = true by decide +kernel))))) ?_
 simp only [sA, sB]
 refine tv 47 (.bool true) rfl rfl (by intro x hx; go_simp; all_goals exact rfl) ?_
 simp only [sA, sB]
 refine ta 48 84 rfl rfl rfl rfl ?_
 simp only [sB]
 clear HS
 refine td fun W6 HS => ?_
 go_wp2
 exact bodyPost_ret (v := .bool true) (by simp [results, Tryz.results10, go_sem]) rfl ⟨rfl, HS.out.below⟩
end Go.Proofs.YtmcapfbkedfdkaaGreatDoor.Sp

namespace Go.Proofs.YtmcapfbkedfdkaaGreatDoor.Sp
set_option maxRecDepth 100000
open Go.RowKit Go.Proofs.YtmcapfbkedfdkaaGreatDoor.Num Go.Proofs.YtmcapfbkedfdkaaGreatDoor.Up Go.ChangeShapes Go.WideShapes Go.Deep
end Go.Proofs.YtmcapfbkedfdkaaGreatDoor.Sp
namespace Go.Proofs.YtmcapfbkedfdkaaGreatDoor.Tn
set_option maxRecDepth 100000
open Go.ChangeShapes Go.WideShapes Go.ChangeAt Go.WideElems Go.RowKit Go.Proofs.YtmcapfbkedfdkaaGreatDoor.Num
theorem gTab : Tryz.prog.globalNamed "math/bits.deBruijn64tab" = some 0 := by kernel_rfl
theorem tTab : (Tryz.prog.globals[0]?).map (·.type) = some 165 := by kernel_rfl
def tabL : List (String × DataW Unit) := [("math/bits.deBruijn64tab", Rows.laid_math_bits_deBruijn64tab)]
theorem door_met (os : Os) (args : Array Value) : laidMetH Tryz.prog tabL ((World.doorLaid Tryz.prog 400 os).forCall (fun _ _ => 0) ⟨#[], args, []⟩).memory :=
 laidMetH_of_parts3 (fuel := 8) (laidMet_of_run' 8 (by kernel_rfl) (by kernel_rfl)) (by kernel_rfl) (by kernel_rfl)
theorem of_laid {W : World} (h : laidMetH Tryz.prog tabL W) : Tab W := by
 rw [MakeChecks.laidMetH_plain _ _ _ (by kernel_rfl)] at h
 obtain ⟨ps, ⟨g0, t0, cs0, f0, p0, q0, hg0, ht0, hv0, hd0, _, _⟩, _, _⟩ := h
 obtain rfl := Option.some.inj (gTab.symm.trans hg0)
 obtain rfl := Option.some.inj (tTab.symm.trans ht0)
 obtain ⟨xs, m1, hcs, hx1, hlen, hn3, hel⟩ := DataW.trod_array Tryz.underlying165 hd0
 intro k hk
 have c5 : Tryz.prog.cellsOf 5 = 1 := by kernel_rfl
 have hv := World.var?_cell hg0 hv0 k
 have he := hel k hk
 simp only [Prod.mk.injEq] at hx1
 obtain ⟨hx1, _⟩ := hx1
 have hL : (Rows.laid_math_bits_deBruijn64tab : DataW Unit) = .agg (deB.map fun z => .lit (.int .u8 z)) := rfl
 rw [hL] at hx1
 injection hx1 with hx1
 obtain ⟨x, hx⟩ : ∃ x, xs[k]? = some x := ⟨_, List.getElem?_eq_getElem (by omega)⟩
 rw [c5, Nat.mul_one, hx] at he
 obtain ⟨n, e1, e2, _⟩ := DataW.trod_int Tryz.underlying5 he
 have hd : k < deB.length := hk
 have h3 : (deB.map (fun z => (DataW.lit (.int .u8 z) : DataW Unit)))[k]? = (xs.map (fun x => x.fst))[k]? := by rw [hx1]
 rw [List.getElem?_map, List.getElem?_map, hx, List.getElem?_eq_getElem hd, e2] at h3
 simp only [Option.map_some, Option.some.injEq, DataW.lit.injEq, Lit.int.injEq, true_and] at h3
 have h4 : cs0.toList[k]? = some (.int .u8 n) := by
  have h5 := congrArg (fun l => l[0]?) e1
  simpa [List.getElem?_take, List.getElem?_drop] using h5
 rw [hv, ← Array.getElem?_toList, h4, ← h3, List.getD_eq_getElem?_getD, List.getElem?_eq_getElem hd]
 rfl
end Go.Proofs.YtmcapfbkedfdkaaGreatDoor.Tn

namespace Go.Proofs.YtmcapfbkedfdkaaGreatDoor.Sp
set_option maxRecDepth 100000
open Go.RowKit Go.Proofs.YtmcapfbkedfdkaaGreatDoor.Num Go.Proofs.YtmcapfbkedfdkaaGreatDoor.Up
set_option maxHeartbeats 16000000 in
theorem scalarKnown    (w : World) (hT : Tn.Tab w) :
   Calls Tryz.prog 3 #[] w fun e w' => e = .returned (.bool true) ∧ Below w.heap.size w w' := by
 have HT := hid hT
 clear hT
 go_enter Tryz.func3, Tryz.ntmps3
 have HS : Hid (St w [] _) := hid (st_nil w)
 go_upto_region 1 with fail
 refine lnb HS.out rfl ?_
 refine lv 0 (.int .i64 0) rfl rfl (by intro x hx; go_simp; all_goals exact rfl) ?_
 simp only [sA, sB]
 clear HS
 refine ld fun W1 HS => ?_
 go_wp2
 refine loop_up 625 (fun k a W => Hid (∃ u1_0 u1_2 u1_3 u1_4 u1_5 u1_6 u1_12 u1_13 u1_14 u1_15 u1_16 u1_17 u1_18 u1_19 u1_20 u1_21 u1_22 u1_23 u1_24 u1_25 u1_26 u1_27 u1_28 u1_29 u1_30 u1_31 u1_32 u1_33 u1_34 u1_35 u1_36 u1_37 u1_38 u1_39 u1_40 u1_41 u1_42 u1_43 u1_44 u1_45 u1_46 u1_47 u1_48 u1_49 u1_50 u1_51 u1_52 u1_53 u1_54 u1_55 u1_56 u1_57 : Value, a = Act.mk [u1_0, .int .i64 ((k : Nat) : Int), u1_2, u1_3, u1_4, u1_5, u1_6, undef, undef, undef, undef, undef, u1_12, u1_13, u1_14, u1_15, u1_16, u1_17, u1_18, u1_19, u1_20, u1_21, u1_22, u1_23, u1_24, u1_25, u1_26, u1_27, u1_28, u1_29, u1_30, u1_31, u1_32, u1_33, u1_34, u1_35, u1_36, u1_37, u1_38, u1_39, u1_40, u1_41, u1_42, u1_43, u1_44, u1_45, u1_46, u1_47, u1_48, u1_49, u1_50, u1_51, u1_52, u1_53, u1_54, u1_55, u1_56, u1_57, undef, undef, undef, undef, undef, undef, undef, undef, undef, undef, undef, undef, undef, undef, undef, undef, undef, undef, undef, undef, undef, undef, undef, undef, undef, undef, undef, undef, undef, undef, undef, undef, undef, undef, undef, undef, undef, undef, undef, undef, undef, undef, undef, undef, undef, undef, undef].toArray [] ∧ St w [] W)) (hid ⟨(.bool false), (undef), (undef), (undef), (undef), (undef), (undef), (undef), (undef), (undef), (undef), (undef), (undef), (undef), (undef), (undef), (undef), (undef), (undef), (undef), (undef), (undef), (undef), (undef), (undef), (undef), (undef), (undef), (undef), (undef), (undef), (undef), (undef), (undef), (undef), (undef), (undef), (undef), (undef), (undef), (undef), (undef), (undef), (undef), (undef), (undef), (undef), (undef), (undef), (undef), (undef), (undef), rfl, HS.out⟩) (fun r1 a W hr hR => ?_)
 obtain ⟨u1_0, u1_2, u1_3, u1_4, u1_5, u1_6, u1_12, u1_13, u1_14, u1_15, u1_16, u1_17, u1_18, u1_19, u1_20, u1_21, u1_22, u1_23, u1_24, u1_25, u1_26, u1_27, u1_28, u1_29, u1_30, u1_31, u1_32, u1_33, u1_34, u1_35, u1_36, u1_37, u1_38, u1_39, u1_40, u1_41, u1_42, u1_43, u1_44, u1_45, u1_46, u1_47, u1_48, u1_49, u1_50, u1_51, u1_52, u1_53, u1_54, u1_55, u1_56, u1_57, rfl, hS⟩ := hR.out
 replace HS := hid hS
 clear hS hR
 by_cases hlt1 : r1 < 625
 · -- round
   go_upto_region 2 with fail
   refine lnb HS.out rfl ?_
   refine lm 0 1 rfl rfl rfl rfl ?_
   simp only [sA, sB]
   refine lv 1 (.bool true) rfl rfl (by intro x hx; go_simp; (first | done | omega | (simp; omega))) ?_
   simp only [sA, sB]
   clear HS
   refine ld fun W2 HS => ?_
   go_upto_region 4 with fail
   refine lnb HS.out rfl ?_
   refine lm 0 1 rfl rfl rfl rfl ?_
   simp only [sA, sB]
   refine lv 1 (.int .i64 ((r1 % 5 : Nat) : Int)) rfl rfl (by intro x hx; go_simp; (first | done | exact remN r1 5 | exact congrArg _ (remN r1 5) | (rw [remN r1 5]; done) | (rw [remN r1 5]; rfl))) ?_
   simp only [sA, sB]
   refine lv 2 (.int .u64 (tn (BitVec.ofNat 64 (r1 % 5)))) rfl rfl (by intro x hx; go_simp; (first | done | exact toU (r1 % 5) | exact congrArg _ (toU (r1 % 5)) | (rw [toU (r1 % 5)]; done) | (rw [toU (r1 % 5)]; rfl))) ?_
   simp only [sA, sB]
   refine la 3 18 rfl rfl rfl rfl ?_
   simp only [sA, sB]
   clear HS
   refine ld fun W3 HS => ?_
   go_upto_region 5 with fail
   refine lnb HS.out rfl ?_
   refine lm 0 1 rfl rfl rfl rfl ?_
   simp only [sA, sB]
   refine lv 1 (.int .i64 ((r1 / 5 : Nat) : Int)) rfl rfl (by intro x hx; go_simp; (first | done | exact quoN r1 5 (by omega) | exact congrArg _ (quoN r1 5 (by omega)) | (rw [quoN r1 5 (by omega)]; done) | (rw [quoN r1 5 (by omega)]; rfl))) ?_
   simp only [sA, sB]
   refine lv 2 (.int .i64 (((r1 / 5) % 5 : Nat) : Int)) rfl rfl (by intro x hx; go_simp; (first | done | exact remN (r1 / 5) 5 | exact congrArg _ (remN (r1 / 5) 5) | (rw [remN (r1 / 5) 5]; done) | (rw [remN (r1 / 5) 5]; rfl))) ?_
   simp only [sA, sB]
   refine lv 3 (.int .u64 (tn (BitVec.ofNat 64 ((r1 / 5) % 5)))) rfl rfl (by intro x hx; go_simp; (first | done | exact toU ((r1 / 5) % 5) | exact congrArg _ (toU ((r1 / 5) % 5)) | (rw [toU ((r1 / 5) % 5)]; done) | (rw [toU ((r1 / 5) % 5)]; rfl))) ?_
   simp only [sA, sB]
   refine la 4 22 rfl rfl rfl rfl ?_
   simp only [sA, sB]
   clear HS
   refine ld fun W4 HS => ?_
   go_upto_region 6 with fail
   refine lnb HS.out rfl ?_
   refine lm 0 1 rfl rfl rfl rfl ?_
   simp only [sA, sB]
   refine lv 1 (.int .i64 ((r1 / 25 : Nat) : Int)) rfl rfl (by intro x hx; go_simp; (first | done | exact quoN r1 25 (by omega) | exact congrArg _ (quoN r1 25 (by omega)) | (rw [quoN r1 25 (by omega)]; done) | (rw [quoN r1 25 (by omega)]; rfl))) ?_
   simp only [sA, sB]
   refine lv 2 (.int .i64 (((r1 / 25) % 5 : Nat) : Int)) rfl rfl (by intro x hx; go_simp; (first | done | exact remN (r1 / 25) 5 | exact congrArg _ (remN (r1 / 25) 5) | (rw [remN (r1 / 25) 5]; done) | (rw [remN (r1 / 25) 5]; rfl))) ?_
   simp only [sA, sB]
   refine lv 3 (.int .u64 (tn (BitVec.ofNat 64 ((r1 / 25) % 5)))) rfl rfl (by intro x hx; go_simp; (first | done | exact toU ((r1 / 25) % 5) | exact congrArg _ (toU ((r1 / 25) % 5)) | (rw [toU ((r1 / 25) % 5)]; done) | (rw [toU ((r1 / 25) % 5)]; rfl))) ?_
   simp only [sA, sB]
   refine la 4 26 rfl rfl rfl rfl ?_
   simp only [sA, sB]
   clear HS
   refine ld fun W5 HS => ?_
   go_upto_region 7 with fail
   refine lnb HS.out rfl ?_
   refine lm 0 1 rfl rfl rfl rfl ?_
   simp only [sA, sB]
   refine lv 1 (.int .i64 ((r1 / 125 : Nat) : Int)) rfl rfl (by intro x hx; go_simp; (first | done | exact quoN r1 125 (by omega) | exact congrArg _ (quoN r1 125 (by omega)) | (rw [quoN r1 125 (by omega)]; done) | (rw [quoN r1 125 (by omega)]; rfl))) ?_
   simp only [sA, sB]
   refine lv 2 (.int .u64 (tn (BitVec.ofNat 64 (r1 / 125)))) rfl rfl (by intro x hx; go_simp; (first | done | exact toU (r1 / 125) | exact congrArg _ (toU (r1 / 125)) | (rw [toU (r1 / 125)]; done) | (rw [toU (r1 / 125)]; rfl))) ?_
   simp only [sA, sB]
   refine la 3 29 rfl rfl rfl rfl ?_
   simp only [sA, sB]
   clear HS
   refine ld fun W6 HS => ?_
   go_upto_region 8 with fail
   refine lnb HS.out rfl ?_
   refine lm 0 2 rfl rfl rfl rfl ?_
   simp only [sA, sB]
   refine lm 1 3 rfl rfl rfl rfl ?_
   simp only [sA, sB]
   refine lv 2 (.bool (gtU (BitVec.ofNat 64 (r1 % 5)) (BitVec.ofNat 64 ((r1 / 5) % 5)))) rfl rfl (by intro x hx; go_simp; (first | done | exact gtUT (BitVec.ofNat 64 (r1 % 5)) (BitVec.ofNat 64 ((r1 / 5) % 5)) | exact congrArg _ (gtUT (BitVec.ofNat 64 (r1 % 5)) (BitVec.ofNat 64 ((r1 / 5) % 5))) | (rw [gtUT (BitVec.ofNat 64 (r1 % 5)) (BitVec.ofNat 64 ((r1 / 5) % 5))]; done) | (rw [gtUT (BitVec.ofNat 64 (r1 % 5)) (BitVec.ofNat 64 ((r1 / 5) % 5))]; rfl))) ?_
   simp only [sA, sB]
   refine lm 3 32 rfl rfl rfl rfl ?_
   simp only [sA, sB]
   refine lin_if (i := 4) (v := .int .u64 (tn (BitVec.ofNat 64 ((r1 / 25) % 5)))) (!(gtU (BitVec.ofNat 64 (r1 % 5)) (BitVec.ofNat 64 ((r1 / 5) % 5)))) rfl rfl (by generalize (gtU (BitVec.ofNat 64 (r1 % 5)) (BitVec.ofNat 64 ((r1 / 5) % 5))) = gg0; cases gg0 <;> rfl) (by intro hb; have hb136 := hid (show (gtU (BitVec.ofNat 64 (r1 % 5)) (BitVec.ofNat 64 ((r1 / 5) % 5))) = false from nnb hb); intro x hx; (try simp only [hb]); (try simp only [cond_true]); go_simp; all_goals exact rfl) ?_
   simp only [sA, sB]
   refine lin_if (i := 5) (v := .int .u64 (tn (BitVec.ofNat 64 (r1 / 125)))) (!(gtU (BitVec.ofNat 64 (r1 % 5)) (BitVec.ofNat 64 ((r1 / 5) % 5)))) rfl rfl (by generalize (gtU (BitVec.ofNat 64 (r1 % 5)) (BitVec.ofNat 64 ((r1 / 5) % 5))) = gg0; cases gg0 <;> rfl) (by intro hb; have hb137 := hid (show (gtU (BitVec.ofNat 64 (r1 % 5)) (BitVec.ofNat 64 ((r1 / 5) % 5))) = false from nnb hb); intro x hx; (try simp only [hb]); (try simp only [cond_true]); go_simp; all_goals exact rfl) ?_
   simp only [sA, sB]
   refine lin_if (i := 6) (v := .bool (gtU (BitVec.ofNat 64 ((r1 / 25) % 5)) (BitVec.ofNat 64 (r1 / 125)))) (!(gtU (BitVec.ofNat 64 (r1 % 5)) (BitVec.ofNat 64 ((r1 / 5) % 5)))) rfl rfl (by generalize (gtU (BitVec.ofNat 64 (r1 % 5)) (BitVec.ofNat 64 ((r1 / 5) % 5))) = gg0; cases gg0 <;> rfl) (by intro hb; have hb138 := hid (show (gtU (BitVec.ofNat 64 (r1 % 5)) (BitVec.ofNat 64 ((r1 / 5) % 5))) = false from nnb hb); intro x hx; (try simp only [hb]); (try simp only [cond_true]); go_simp; (first | done | exact gtUT (BitVec.ofNat 64 ((r1 / 25) % 5)) (BitVec.ofNat 64 (r1 / 125)) | exact congrArg _ (gtUT (BitVec.ofNat 64 ((r1 / 25) % 5)) (BitVec.ofNat 64 (r1 / 125))) | (rw [gtUT (BitVec.ofNat 64 ((r1 / 25) % 5)) (BitVec.ofNat 64 (r1 / 125))]; done) | (rw [gtUT (BitVec.ofNat 64 ((r1 / 25) % 5)) (BitVec.ofNat 64 (r1 / 125))]; rfl))) ?_
   simp only [sA, sB]
   refine lv 7 (.bool ((bif gtU (BitVec.ofNat 64 (r1 % 5)) (BitVec.ofNat 64 ((r1 / 5) % 5)) then true else gtU (BitVec.ofNat 64 ((r1 / 25) % 5)) (BitVec.ofNat 64 (r1 / 125))))) rfl rfl (by intro x hx; (cases hq : (gtU (BitVec.ofNat 64 (r1 % 5)) (BitVec.ofNat 64 ((r1 / 5) % 5))) <;> first | rfl | (simp only [hq]; rfl) | simp [hq])) ?_
   simp only [sA, sB]
   clear HS
   refine ld fun W7 HS => ?_
   cases h1 : ((bif gtU (BitVec.ofNat 64 (r1 % 5)) (BitVec.ofNat 64 ((r1 / 5) % 5)) then true else gtU (BitVec.ofNat 64 ((r1 / 25) % 5)) (BitVec.ofNat 64 (r1 / 125))))
   ·replace h1 := hid h1
    go_upto_region 9 with fail
    refine lnb HS.out rfl ?_
    refine lv 0 (.int .i64 0) rfl rfl (by intro x hx; go_simp; all_goals exact rfl) ?_
    simp only [sA, sB]
    clear HS
    refine ld fun W8 HS => ?_
    go_wp2
    refine loop_up 16 (fun k a W => Hid (∃ u2_0 u2_38 u2_39 u2_40 u2_41 u2_42 u2_43 u2_44 u2_45 u2_46 u2_47 u2_48 u2_49 u2_50 u2_51 u2_52 u2_53 u2_54 u2_55 u2_56 u2_57 : Value, a = Act.mk [u2_0, .int .i64 ((r1 : Nat) : Int), .int .u64 (tn (BitVec.ofNat 64 (r1 % 5))), .int .u64 (tn (BitVec.ofNat 64 ((r1 / 5) % 5))), .int .u64 (tn (BitVec.ofNat 64 ((r1 / 25) % 5))), .int .u64 (tn (BitVec.ofNat 64 (r1 / 125))), .int .i64 (ti (opAt k)), undef, undef, undef, undef, undef, .int .i64 ((r1 : Nat) : Int), .bool true, u1_14, u1_15, .int .i64 ((r1 : Nat) : Int), .int .i64 ((r1 % 5 : Nat) : Int), .int .u64 (tn (BitVec.ofNat 64 (r1 % 5))), .int .i64 ((r1 : Nat) : Int), .int .i64 ((r1 / 5 : Nat) : Int), .int .i64 (((r1 / 5) % 5 : Nat) : Int), .int .u64 (tn (BitVec.ofNat 64 ((r1 / 5) % 5))), .int .i64 ((r1 : Nat) : Int), .int .i64 ((r1 / 25 : Nat) : Int), .int .i64 (((r1 / 25) % 5 : Nat) : Int), .int .u64 (tn (BitVec.ofNat 64 ((r1 / 25) % 5))), .int .i64 ((r1 : Nat) : Int), .int .i64 ((r1 / 125 : Nat) : Int), .int .u64 (tn (BitVec.ofNat 64 (r1 / 125))), .int .u64 (tn (BitVec.ofNat 64 (r1 % 5))), .int .u64 (tn (BitVec.ofNat 64 ((r1 / 5) % 5))), .bool (gtU (BitVec.ofNat 64 (r1 % 5)) (BitVec.ofNat 64 ((r1 / 5) % 5))), .bool (gtU (BitVec.ofNat 64 (r1 % 5)) (BitVec.ofNat 64 ((r1 / 5) % 5))), cond (!(gtU (BitVec.ofNat 64 (r1 % 5)) (BitVec.ofNat 64 ((r1 / 5) % 5)))) (.int .u64 (tn (BitVec.ofNat 64 ((r1 / 25) % 5)))) undef, cond (!(gtU (BitVec.ofNat 64 (r1 % 5)) (BitVec.ofNat 64 ((r1 / 5) % 5)))) (.int .u64 (tn (BitVec.ofNat 64 (r1 / 125)))) undef, cond (!(gtU (BitVec.ofNat 64 (r1 % 5)) (BitVec.ofNat 64 ((r1 / 5) % 5)))) (.bool (gtU (BitVec.ofNat 64 ((r1 / 25) % 5)) (BitVec.ofNat 64 (r1 / 125)))) undef, .bool false, u2_38, u2_39, u2_40, u2_41, u2_42, u2_43, u2_44, u2_45, u2_46, u2_47, u2_48, u2_49, u2_50, u2_51, u2_52, u2_53, u2_54, u2_55, u2_56, u2_57, undef, undef, undef, undef, undef, undef, undef, undef, undef, undef, undef, undef, undef, undef, undef, undef, undef, undef, undef, undef, undef, undef, undef, undef, undef, undef, undef, undef, undef, undef, undef, undef, undef, undef, undef, undef, undef, undef, undef, undef, undef, undef, undef, undef, undef, undef, undef].toArray [] ∧ St w [] W)) (hid ⟨(u1_0), (u1_38), (u1_39), (u1_40), (u1_41), (u1_42), (u1_43), (u1_44), (u1_45), (u1_46), (u1_47), (u1_48), (u1_49), (u1_50), (u1_51), (u1_52), (u1_53), (u1_54), (u1_55), (u1_56), (u1_57), rfl, HS.out⟩) (fun r2 a W hr hR => ?_)
    obtain ⟨u2_0, u2_38, u2_39, u2_40, u2_41, u2_42, u2_43, u2_44, u2_45, u2_46, u2_47, u2_48, u2_49, u2_50, u2_51, u2_52, u2_53, u2_54, u2_55, u2_56, u2_57, rfl, hS⟩ := hR.out
    replace HS := hid hS
    clear hS hR
    by_cases hlt2 : r2 < 16
    · -- round
      go_upto_region 10 with fail
      refine lnb HS.out rfl ?_
      refine lm 0 6 rfl rfl rfl rfl ?_
      simp only [sA, sB]
      refine lv 1 (.bool true) rfl rfl (by intro x hx; go_simp; (first | done | (first | exact op_lt hlt2 | exact eq_of_beq (op_lt hlt2) | exact congrArg _ (op_lt hlt2) | (rw [op_lt hlt2]; done) | ((first | rfl | exact ltIT (opAt r2) 256#64 | exact congrArg _ (ltIT (opAt r2) 256#64) | (rw [ltIT (opAt r2) 256#64]; done) | (rw [ltIT (opAt r2) 256#64]; rfl)); rw [op_lt hlt2]) | exact congrArg tn (eq_of_beq (op_lt hlt2)) | exact congrArg ti (eq_of_beq (op_lt hlt2)) | exact congrArg tn (eq_of_bne (op_lt hlt2)) | exact of_decide_eq_true (op_lt hlt2) | exact Int.not_le.1 (of_decide_eq_false (op_lt hlt2)) | exact Int.not_lt.1 (of_decide_eq_false (op_lt hlt2)) | simpa using (op_lt hlt2)))) ?_
      simp only [sA, sB]
      clear HS
      refine ld fun W9 HS => ?_
      go_upto_region 12 with fail
      refine lnb HS.out rfl ?_
      refine lm 0 6 rfl rfl rfl rfl ?_
      simp only [sA, sB]
      refine lm 1 2 rfl rfl rfl rfl ?_
      simp only [sA, sB]
      refine lm 2 3 rfl rfl rfl rfl ?_
      simp only [sA, sB]
      refine lm 3 4 rfl rfl rfl rfl ?_
      simp only [sA, sB]
      refine lm 4 5 rfl rfl rfl rfl ?_
      simp only [sA, sB]
      refine lc 5 4 #[.int .i64 (ti (opAt r2)), .bool true, .int .u64 (tn (BitVec.ofNat 64 (r1 % 5))), .int .u64 (tn (BitVec.ofNat 64 ((r1 / 5) % 5))), .int .u64 (tn (BitVec.ofNat 64 ((r1 / 25) % 5))), .int .u64 (tn (BitVec.ofNat 64 (r1 / 125)))] (.bool true) rfl rfl (by intro x hx; exact through_yes (opAt r2) true (BitVec.ofNat 64 (r1 % 5)) (BitVec.ofNat 64 ((r1 / 5) % 5)) (BitVec.ofNat 64 ((r1 / 25) % 5)) (BitVec.ofNat 64 (r1 / 125)) (le_l h1.out) (of5 _) (le_r h1.out) (of125 hlt1) _ (HT.out.up hx.below)) ?_
      simp only [sA, sB]
      refine lv 6 (.bool false) rfl rfl (by intro x hx; go_simp; all_goals exact rfl) ?_
      simp only [sA, sB]
      refine lm 7 48 rfl rfl rfl rfl ?_
      simp only [sA, sB]
      refine lv 8 (.int .i64 (ti (opAt r2))) rfl rfl (by intro x hx; go_simp; all_goals exact rfl) ?_
      simp only [sA, sB]
      refine lv 9 (.int .u64 (tn (BitVec.ofNat 64 (r1 % 5)))) rfl rfl (by intro x hx; go_simp; all_goals exact rfl) ?_
      simp only [sA, sB]
      refine lv 10 (.int .u64 (tn (BitVec.ofNat 64 ((r1 / 5) % 5)))) rfl rfl (by intro x hx; go_simp; all_goals exact rfl) ?_
      simp only [sA, sB]
      refine lv 11 (.int .u64 (tn (BitVec.ofNat 64 ((r1 / 25) % 5)))) rfl rfl (by intro x hx; go_simp; all_goals exact rfl) ?_
      simp only [sA, sB]
      refine lv 12 (.int .u64 (tn (BitVec.ofNat 64 (r1 / 125)))) rfl rfl (by intro x hx; go_simp; all_goals exact rfl) ?_
      simp only [sA, sB]
      refine lc 13 4 #[.int .i64 (ti (opAt r2)), .bool false, .int .u64 (tn (BitVec.ofNat 64 (r1 % 5))), .int .u64 (tn (BitVec.ofNat 64 ((r1 / 5) % 5))), .int .u64 (tn (BitVec.ofNat 64 ((r1 / 25) % 5))), .int .u64 (tn (BitVec.ofNat 64 (r1 / 125)))] (.bool true) rfl rfl (by intro x hx; exact through_yes (opAt r2) false (BitVec.ofNat 64 (r1 % 5)) (BitVec.ofNat 64 ((r1 / 5) % 5)) (BitVec.ofNat 64 ((r1 / 25) % 5)) (BitVec.ofNat 64 (r1 / 125)) (le_l h1.out) (of5 _) (le_r h1.out) (of125 hlt1) _ (HT.out.up hx.below)) ?_
      simp only [sA, sB]
      refine lv 14 (.bool false) rfl rfl (by intro x hx; go_simp; all_goals exact rfl) ?_
      simp only [sA, sB]
      refine lv 15 (.bool false) rfl rfl (by intro x hx; go_simp; all_goals exact rfl) ?_
      simp only [sA, sB]
      clear HS
      refine ld fun W10 HS => ?_
      go_upto_region 11 with fail
      refine lnb HS.out rfl ?_
      refine lm 0 6 rfl rfl rfl rfl ?_
      simp only [sA, sB]
      refine lv 1 (.int .i64 (ti ((opAt r2) + 16#64))) rfl rfl (by intro x hx; exact (show _ = Result.ok (Next.value (.int .i64 (IntKind.i64.wrap ((ti (opAt r2) : Int) + (16))))) x by kernel_rfl).trans (by rw [show (16 : Int) = ti 16#64 from by decide, addIT (opAt r2) 16#64])) ?_
      simp only [sA, sB]
      refine la 2 41 rfl rfl rfl rfl ?_
      simp only [sA, sB]
      clear HS
      refine ld fun W11 HS => ?_
      go_wp2
      rw [op_next r2]
      exact ⟨hlt2, hid ⟨_, _, _, _, _, _, _, _, _, _, _, _, _, _, _, _, _, _, _, _, _, rfl, HS.out⟩⟩
    · have hN2 := hid (show r2 = 16 by omega)
      go_upto_region 10 with fail
      refine lnb HS.out rfl ?_
      refine lm 0 6 rfl rfl rfl rfl ?_
      simp only [sA, sB]
      refine lv 1 (.bool false) rfl rfl (by intro x hx; go_simp; (first | done | (first | exact op_end hN2.out | exact eq_of_beq (op_end hN2.out) | exact congrArg _ (op_end hN2.out) | (rw [op_end hN2.out]; done) | ((first | rfl | exact ltIT (opAt r2) 256#64 | exact congrArg _ (ltIT (opAt r2) 256#64) | (rw [ltIT (opAt r2) 256#64]; done) | (rw [ltIT (opAt r2) 256#64]; rfl)); rw [op_end hN2.out]) | exact congrArg tn (eq_of_beq (op_end hN2.out)) | exact congrArg ti (eq_of_beq (op_end hN2.out)) | exact congrArg tn (eq_of_bne (op_end hN2.out)) | exact of_decide_eq_true (op_end hN2.out) | exact Int.not_le.1 (of_decide_eq_false (op_end hN2.out)) | exact Int.not_lt.1 (of_decide_eq_false (op_end hN2.out)) | simpa using (op_end hN2.out)))) ?_
      simp only [sA, sB]
      clear HS
      refine ld fun W9 HS => ?_
      go_upto_region 3 with fail
      refine lnb HS.out rfl ?_
      refine lm 0 1 rfl rfl rfl rfl ?_
      simp only [sA, sB]
      refine lv 1 (.int .i64 ((r1 + 1 : Nat) : Int)) rfl rfl (by intro x hx; go_simp; (first | done | exact addN r1 1 (by omega) | exact congrArg _ (addN r1 1 (by omega)) | (rw [addN r1 1 (by omega)]; done) | (rw [addN r1 1 (by omega)]; rfl))) ?_
      simp only [sA, sB]
      refine la 2 15 rfl rfl rfl rfl ?_
      simp only [sA, sB]
      clear HS
      refine ld fun W10 HS => ?_
      go_wp2
      exact ⟨hlt1, hid ⟨_, _, _, _, _, _, _, _, _, _, _, _, _, _, _, _, _, _, _, _, _, _, _, _, _, _, _, _, _, _, _, _, _, _, _, _, _, _, _, _, _, _, _, _, _, _, _, _, _, _, _, _, rfl, HS.out⟩⟩
   ·replace h1 := hid h1
    go_upto_region 3 with fail
    refine lnb HS.out rfl ?_
    refine lm 0 1 rfl rfl rfl rfl ?_
    simp only [sA, sB]
    refine lv 1 (.int .i64 ((r1 + 1 : Nat) : Int)) rfl rfl (by intro x hx; go_simp; (first | done | exact addN r1 1 (by omega) | exact congrArg _ (addN r1 1 (by omega)) | (rw [addN r1 1 (by omega)]; done) | (rw [addN r1 1 (by omega)]; rfl))) ?_
    simp only [sA, sB]
    refine la 2 15 rfl rfl rfl rfl ?_
    simp only [sA, sB]
    clear HS
    refine ld fun W8 HS => ?_
    go_wp2
    exact ⟨hlt1, hid ⟨_, _, _, _, _, _, _, _, _, _, _, _, _, _, _, _, _, _, _, _, _, _, _, _, _, _, _, _, _, _, _, _, _, _, _, _, _, _, _, _, _, _, _, _, _, _, _, _, _, _, _, _, rfl, HS.out⟩⟩
 · have hN1 := hid (show r1 = 625 by omega)
   go_upto_region 2 with fail
   refine lnb HS.out rfl ?_
   refine lm 0 1 rfl rfl rfl rfl ?_
   simp only [sA, sB]
   refine lv 1 (.bool false) rfl rfl (by intro x hx; go_simp; (first | done | omega | (simp; omega))) ?_
   simp only [sA, sB]
   clear HS
   refine ld fun W2 HS => ?_
   go_upto_region 14 with fail
   refine lnb HS.out rfl ?_
   refine lc 0 6 #[.int .u64 (tn (0#64)), .int .u64 (tn (7#64))] (vS (btw 0#64 7#64)) rfl rfl (by intro x hx; exact btw_any 0#64 7#64 _) ?_
   simp only [sA, sB, vS]
   refine lc 1 7 #[.int .u64 (tn (4#64))] (vS (Sc.mk (P.mk 4#64 0#64) (P.mk 4#64 4#64) (P.mk 4#64 4#64))) rfl rfl (by intro x hx; exact scalar_Of_any 4#64 _) ?_
   simp only [sA, sB, vS]
   refine lc 2 5 #[.int .i64 (ti (64#64)), .bool true, vS (btw 0#64 7#64), vS (Sc.mk (P.mk 4#64 0#64) (P.mk 4#64 4#64) (P.mk 4#64 4#64)), .bool false] (.tuple #[vS ((scalar_Branch 64#64 true (btw 0#64 7#64) (Sc.mk (P.mk 4#64 0#64) (P.mk 4#64 4#64) (P.mk 4#64 4#64)) false).1), vS ((scalar_Branch 64#64 true (btw 0#64 7#64) (Sc.mk (P.mk 4#64 0#64) (P.mk 4#64 4#64) (P.mk 4#64 4#64)) false).2.1), .bool ((scalar_Branch 64#64 true (btw 0#64 7#64) (Sc.mk (P.mk 4#64 0#64) (P.mk 4#64 4#64) (P.mk 4#64 4#64)) false).2.2)]) rfl rfl (by intro x hx; exact scalar_Branch_any 64#64 true (btw 0#64 7#64) (Sc.mk (P.mk 4#64 0#64) (P.mk 4#64 4#64) (P.mk 4#64 4#64)) false _) ?_
   simp only [sA, sB, vS]
   refine lm 3 61 rfl rfl rfl rfl ?_
   simp only [sA, sB]
   refine lv 4 (vS ((scalar_Branch 64#64 true (btw 0#64 7#64) (Sc.mk (P.mk 4#64 0#64) (P.mk 4#64 4#64) (P.mk 4#64 4#64)) false).1)) rfl rfl (by intro x hx; go_simp; all_goals exact rfl) ?_
   simp only [sA, sB, vS]
   refine lv 5 (vS ((scalar_Branch 64#64 true (btw 0#64 7#64) (Sc.mk (P.mk 4#64 0#64) (P.mk 4#64 4#64) (P.mk 4#64 4#64)) false).2.1)) rfl rfl (by intro x hx; go_simp; all_goals exact rfl) ?_
   simp only [sA, sB, vS]
   refine lv 6 (.bool ((scalar_Branch 64#64 true (btw 0#64 7#64) (Sc.mk (P.mk 4#64 0#64) (P.mk 4#64 4#64) (P.mk 4#64 4#64)) false).2.2)) rfl rfl (by intro x hx; go_simp; all_goals exact rfl) ?_
   simp only [sA, sB]
   refine lin_new (i := 7) rfl rfl (by rfl) [.int .u64 0, .int .u64 0, .int .u64 0, .int .u64 0, .int .i64 0, .int .i64 0] 31 (fun k => .pointer (some ⟨k, 0, none⟩)) [some (.int .u64 0), some (.int .u64 0), some (.int .u64 0), some (.int .u64 0), some (.int .i64 0), some (.int .i64 0)] (lessC_refl _) (by intro x hx; go_simp; all_goals exact rfl) (fun k1 => ?_)
   simp only [sA, sB, sD]
   refine lin_new (i := 8) rfl rfl (by rfl) [.int .u64 0, .int .u64 0, .int .u64 0, .int .u64 0, .int .i64 0, .int .i64 0] 31 (fun k => .pointer (some ⟨k, 0, none⟩)) [some (.int .u64 0), some (.int .u64 0), some (.int .u64 0), some (.int .u64 0), some (.int .i64 0), some (.int .i64 0)] (lessC_refl _) (by intro x hx; go_simp; all_goals exact rfl) (fun k2 => ?_)
   simp only [sA, sB, sC, sD]
   refine ls 9 0 0 (cS ((scalar_Branch 64#64 true (btw 0#64 7#64) (Sc.mk (P.mk 4#64 0#64) (P.mk 4#64 4#64) (P.mk 4#64 4#64)) false).1)) rfl rfl rfl (by intro x hx; obtain ⟨⟨_, z0, q0⟩, ⟨_, z1, q1⟩, ⟨_, z2, q2⟩, ⟨_, z3, q3⟩, ⟨_, z4, q4⟩, ⟨_, z5, q5⟩⟩ := hx.at6 0 0 rfl; go_simp; all_goals rfl) ?_
   simp only [Blk.putC, setM, cS, sA, sB]
   refine ls 10 1 0 (cS ((scalar_Branch 64#64 true (btw 0#64 7#64) (Sc.mk (P.mk 4#64 0#64) (P.mk 4#64 4#64) (P.mk 4#64 4#64)) false).2.1)) rfl rfl rfl (by intro x hx; obtain ⟨⟨_, z0, q0⟩, ⟨_, z1, q1⟩, ⟨_, z2, q2⟩, ⟨_, z3, q3⟩, ⟨_, z4, q4⟩, ⟨_, z5, q5⟩⟩ := hx.at6 1 0 rfl; go_simp; all_goals rfl) ?_
   simp only [Blk.putC, setM, cS, sA, sB]
   refine la 11 64 rfl rfl rfl rfl ?_
   simp only [sA, sB]
   clear HS
   refine ld fun W3 HS => ?_
   go_upto_region 15 with fail
   refine lnb HS.out rfl ?_
   refine lc 0 7 #[.int .u64 (tn (4294967295#64))] (vS (Sc.mk (P.mk 4294967295#64 0#64) (P.mk 4294967295#64 4294967295#64) (P.mk 4294967295#64 4294967295#64))) rfl rfl (by intro x hx; exact scalar_Of_any 4294967295#64 _) ?_
   simp only [sA, sB, vS]
   refine lc 1 7 #[.int .u64 (tn (2#64))] (vS (Sc.mk (P.mk 2#64 0#64) (P.mk 2#64 2#64) (P.mk 2#64 2#64))) rfl rfl (by intro x hx; exact scalar_Of_any 2#64 _) ?_
   simp only [sA, sB, vS]
   refine lc 2 8 #[.int .i64 (ti (0#64)), .bool false, vS (Sc.mk (P.mk 4294967295#64 0#64) (P.mk 4294967295#64 4294967295#64) (P.mk 4294967295#64 4294967295#64)), vS (Sc.mk (P.mk 2#64 0#64) (P.mk 2#64 2#64) (P.mk 2#64 2#64))] (vS (scalar_Alu 0#64 false (Sc.mk (P.mk 4294967295#64 0#64) (P.mk 4294967295#64 4294967295#64) (P.mk 4294967295#64 4294967295#64)) (Sc.mk (P.mk 2#64 0#64) (P.mk 2#64 2#64) (P.mk 2#64 2#64)))) rfl rfl (by intro x hx; exact scalar_Alu_any 0#64 false (Sc.mk (P.mk 4294967295#64 0#64) (P.mk 4294967295#64 4294967295#64) (P.mk 4294967295#64 4294967295#64)) (Sc.mk (P.mk 2#64 0#64) (P.mk 2#64 2#64) (P.mk 2#64 2#64)) _ (HT.out.up hx.below)) ?_
   simp only [sA, sB, vS]
   refine lin_new (i := 3) rfl rfl (by rfl) [.int .u64 0, .int .u64 0, .int .u64 0, .int .u64 0, .int .i64 0, .int .i64 0] 31 (fun k => .pointer (some ⟨k, 0, none⟩)) [some (.int .u64 0), some (.int .u64 0), some (.int .u64 0), some (.int .u64 0), some (.int .i64 0), some (.int .i64 0)] (lessC_refl _) (by intro x hx; go_simp; all_goals exact rfl) (fun k3 => ?_)
   simp only [sA, sB, sC, sD]
   refine ls 4 2 0 (cS (scalar_Alu 0#64 false (Sc.mk (P.mk 4294967295#64 0#64) (P.mk 4294967295#64 4294967295#64) (P.mk 4294967295#64 4294967295#64)) (Sc.mk (P.mk 2#64 0#64) (P.mk 2#64 2#64) (P.mk 2#64 2#64)))) rfl rfl rfl (by intro x hx; obtain ⟨⟨_, z0, q0⟩, ⟨_, z1, q1⟩, ⟨_, z2, q2⟩, ⟨_, z3, q3⟩, ⟨_, z4, q4⟩, ⟨_, z5, q5⟩⟩ := hx.at6 2 0 rfl; go_simp; all_goals rfl) ?_
   simp only [Blk.putC, setM, cS, sA, sB]
   clear HS
   refine ld fun W4 HS => ?_
   go_upto_region 16 with fail
   refine lnb HS.out rfl ?_
   refine lc 0 6 #[.int .u64 (tn (0#64)), .int .u64 (tn (100#64))] (vS (btw 0#64 100#64)) rfl rfl (by intro x hx; exact btw_any 0#64 100#64 _) ?_
   simp only [sA, sB, vS]
   refine lc 1 6 #[.int .u64 (tn (0#64)), .int .u64 (tn (3#64))] (vS (btw 0#64 3#64)) rfl rfl (by intro x hx; exact btw_any 0#64 3#64 _) ?_
   simp only [sA, sB, vS]
   refine lc 2 8 #[.int .i64 (ti (112#64)), .bool true, vS (btw 0#64 100#64), vS (btw 0#64 3#64)] (vS (scalar_Alu 112#64 true (btw 0#64 100#64) (btw 0#64 3#64))) rfl rfl (by intro x hx; exact scalar_Alu_any 112#64 true (btw 0#64 100#64) (btw 0#64 3#64) _ (HT.out.up hx.below)) ?_
   simp only [sA, sB, vS]
   refine lin_new (i := 3) rfl rfl (by rfl) [.int .u64 0, .int .u64 0, .int .u64 0, .int .u64 0, .int .i64 0, .int .i64 0] 31 (fun k => .pointer (some ⟨k, 0, none⟩)) [some (.int .u64 0), some (.int .u64 0), some (.int .u64 0), some (.int .u64 0), some (.int .i64 0), some (.int .i64 0)] (lessC_refl _) (by intro x hx; go_simp; all_goals exact rfl) (fun k4 => ?_)
   simp only [sA, sB, sC, sD]
   refine ls 4 3 0 (cS (scalar_Alu 112#64 true (btw 0#64 100#64) (btw 0#64 3#64))) rfl rfl rfl (by intro x hx; obtain ⟨⟨_, z0, q0⟩, ⟨_, z1, q1⟩, ⟨_, z2, q2⟩, ⟨_, z3, q3⟩, ⟨_, z4, q4⟩, ⟨_, z5, q5⟩⟩ := hx.at6 3 0 rfl; go_simp; all_goals rfl) ?_
   simp only [Blk.putC, setM, cS, sA, sB]
   clear HS
   refine ld fun W5 HS => ?_
   go_upto_region 17 with fail
   refine upb 35 (HS.out.drew) rfl ?_
   refine tm 0 9 rfl rfl rfl rfl ?_
   simp only [sA, sB]
   refine tm 1 71 rfl rfl rfl rfl ?_
   simp only [sA, sB]
   rw [show ((scalar_Branch 64#64 true (btw 0#64 7#64) (Sc.mk (P.mk 4#64 0#64) (P.mk 4#64 4#64) (P.mk 4#64 4#64)) false).2.2) = true from (show ((scalar_Branch 64#64 true (btw 0#64 7#64) (Sc.mk (P.mk 4#64 0#64) (P.mk 4#64 4#64) (P.mk 4#64 4#64)) false).2.2) = true by decide +kernel)]
   refine tv 2 (.pointer (some ⟨k1, 0, none⟩)) rfl rfl (by intro x hx; go_simp; all_goals exact rfl) ?_
   simp only [sA, sB]
   refine tv 3 (vU (((scalar_Branch 64#64 true (btw 0#64 7#64) (Sc.mk (P.mk 4#64 0#64) (P.mk 4#64 4#64) (P.mk 4#64 4#64)) false).1).t)) rfl rfl (by intro x hx; obtain ⟨f0, f1⟩ := hx.two 0 0 rfl rfl; go_simp; all_goals exact rfl) ?_
   simp only [sA, sB, vU]
   refine tv 4 (.agg #[.int .u64 0, .int .u64 3]) rfl rfl (by intro x hx; go_simp; all_goals exact rfl) ?_
   simp only [sA, sB]
   refine tv 5 (.bool true) rfl rfl (by intro x hx; go_simp; (first | done | exact (eqPT (fun b => Result.ok (Next.value (Value.bool b)) x) ((((scalar_Branch 64#64 true (btw 0#64 7#64) (Sc.mk (P.mk 4#64 0#64) (P.mk 4#64 4#64) (P.mk 4#64 4#64)) false).1).t).lo) ((((scalar_Branch 64#64 true (btw 0#64 7#64) (Sc.mk (P.mk 4#64 0#64) (P.mk 4#64 4#64) (P.mk 4#64 4#64)) false).1).t).hi) 0#64 3#64).trans (congrArg (fun b => Result.ok (Next.value (Value.bool b)) x) ((show (eqP (((scalar_Branch 64#64 true (btw 0#64 7#64) (Sc.mk (P.mk 4#64 0#64) (P.mk 4#64 4#64) (P.mk 4#64 4#64)) false).1).t) (P.mk 0#64 3#64)) = true by decide +kernel))))) ?_
   simp only [sA, sB]
   refine tv 6 (.bool true) rfl rfl (by intro x hx; go_simp; all_goals exact rfl) ?_
   simp only [sA, sB]
   refine tm 7 77 rfl rfl rfl rfl ?_
   simp only [sA, sB]
   refine tv 8 (.pointer (some ⟨k1, 2, none⟩)) rfl rfl (by intro x hx; go_simp; all_goals exact rfl) ?_
   simp only [sA, sB]
   refine tv 9 (vU (((scalar_Branch 64#64 true (btw 0#64 7#64) (Sc.mk (P.mk 4#64 0#64) (P.mk 4#64 4#64) (P.mk 4#64 4#64)) false).1).u)) rfl rfl (by intro x hx; obtain ⟨f0, f1⟩ := hx.two 0 2 rfl rfl; go_simp; all_goals exact rfl) ?_
   simp only [sA, sB, vU]
   refine tv 10 (.agg #[.int .u64 0, .int .u64 3]) rfl rfl (by intro x hx; go_simp; all_goals exact rfl) ?_
   simp only [sA, sB]
   refine tv 11 (.bool true) rfl rfl (by intro x hx; go_simp; (first | done | exact (eqPT (fun b => Result.ok (Next.value (Value.bool b)) x) ((((scalar_Branch 64#64 true (btw 0#64 7#64) (Sc.mk (P.mk 4#64 0#64) (P.mk 4#64 4#64) (P.mk 4#64 4#64)) false).1).u).lo) ((((scalar_Branch 64#64 true (btw 0#64 7#64) (Sc.mk (P.mk 4#64 0#64) (P.mk 4#64 4#64) (P.mk 4#64 4#64)) false).1).u).hi) 0#64 3#64).trans (congrArg (fun b => Result.ok (Next.value (Value.bool b)) x) ((show (eqP (((scalar_Branch 64#64 true (btw 0#64 7#64) (Sc.mk (P.mk 4#64 0#64) (P.mk 4#64 4#64) (P.mk 4#64 4#64)) false).1).u) (P.mk 0#64 3#64)) = true by decide +kernel))))) ?_
   simp only [sA, sB]
   refine tv 12 (.bool true) rfl rfl (by intro x hx; go_simp; all_goals exact rfl) ?_
   simp only [sA, sB]
   refine tm 13 83 rfl rfl rfl rfl ?_
   simp only [sA, sB]
   refine tv 14 (vS (scalar_Alu 0#64 false (Sc.mk (P.mk 4294967295#64 0#64) (P.mk 4294967295#64 4294967295#64) (P.mk 4294967295#64 4294967295#64)) (Sc.mk (P.mk 2#64 0#64) (P.mk 2#64 2#64) (P.mk 2#64 2#64)))) rfl rfl (by intro x hx; obtain ⟨f0, f1, f2, f3, f4, f5⟩ := hx.six 2 0 rfl rfl; go_simp; all_goals exact rfl) ?_
   simp only [sA, sB, vS]
   refine tc 15 7 #[.int .u64 (tn (1#64))] (vS (Sc.mk (P.mk 1#64 0#64) (P.mk 1#64 1#64) (P.mk 1#64 1#64))) rfl rfl (by intro x hx; exact scalar_Of_any 1#64 _) ?_
   simp only [sA, sB, vS]
   refine tv 16 (.bool true) rfl rfl (by intro x hx; go_simp; (first | done | exact (eqScT (fun b => Result.ok (Next.value (Value.bool b)) x) (((scalar_Alu 0#64 false (Sc.mk (P.mk 4294967295#64 0#64) (P.mk 4294967295#64 4294967295#64) (P.mk 4294967295#64 4294967295#64)) (Sc.mk (P.mk 2#64 0#64) (P.mk 2#64 2#64) (P.mk 2#64 2#64))).t).lo) (((scalar_Alu 0#64 false (Sc.mk (P.mk 4294967295#64 0#64) (P.mk 4294967295#64 4294967295#64) (P.mk 4294967295#64 4294967295#64)) (Sc.mk (P.mk 2#64 0#64) (P.mk 2#64 2#64) (P.mk 2#64 2#64))).t).hi) (((scalar_Alu 0#64 false (Sc.mk (P.mk 4294967295#64 0#64) (P.mk 4294967295#64 4294967295#64) (P.mk 4294967295#64 4294967295#64)) (Sc.mk (P.mk 2#64 0#64) (P.mk 2#64 2#64) (P.mk 2#64 2#64))).u).lo) (((scalar_Alu 0#64 false (Sc.mk (P.mk 4294967295#64 0#64) (P.mk 4294967295#64 4294967295#64) (P.mk 4294967295#64 4294967295#64)) (Sc.mk (P.mk 2#64 0#64) (P.mk 2#64 2#64) (P.mk 2#64 2#64))).u).hi) (((scalar_Alu 0#64 false (Sc.mk (P.mk 4294967295#64 0#64) (P.mk 4294967295#64 4294967295#64) (P.mk 4294967295#64 4294967295#64)) (Sc.mk (P.mk 2#64 0#64) (P.mk 2#64 2#64) (P.mk 2#64 2#64))).s).lo) (((scalar_Alu 0#64 false (Sc.mk (P.mk 4294967295#64 0#64) (P.mk 4294967295#64 4294967295#64) (P.mk 4294967295#64 4294967295#64)) (Sc.mk (P.mk 2#64 0#64) (P.mk 2#64 2#64) (P.mk 2#64 2#64))).s).hi) 1#64 0#64 1#64 1#64 1#64 1#64).trans (congrArg (fun b => Result.ok (Next.value (Value.bool b)) x) ((show (eqSc (scalar_Alu 0#64 false (Sc.mk (P.mk 4294967295#64 0#64) (P.mk 4294967295#64 4294967295#64) (P.mk 4294967295#64 4294967295#64)) (Sc.mk (P.mk 2#64 0#64) (P.mk 2#64 2#64) (P.mk 2#64 2#64))) (Sc.mk (P.mk 1#64 0#64) (P.mk 1#64 1#64) (P.mk 1#64 1#64))) = true by decide +kernel))))) ?_
   simp only [sA, sB]
   refine tv 17 (.bool true) rfl rfl (by intro x hx; go_simp; all_goals exact rfl) ?_
   simp only [sA, sB]
   refine tm 18 88 rfl rfl rfl rfl ?_
   simp only [sA, sB]
   refine tv 19 (.pointer (some ⟨k4, 2, none⟩)) rfl rfl (by intro x hx; go_simp; all_goals exact rfl) ?_
   simp only [sA, sB]
   refine tv 20 (vU ((scalar_Alu 112#64 true (btw 0#64 100#64) (btw 0#64 3#64)).u)) rfl rfl (by intro x hx; obtain ⟨f0, f1⟩ := hx.two 3 2 rfl rfl; go_simp; all_goals exact rfl) ?_
   simp only [sA, sB, vU]
   refine tv 21 (.agg #[.int .u64 0, .int .u64 100]) rfl rfl (by intro x hx; go_simp; all_goals exact rfl) ?_
   simp only [sA, sB]
   refine tv 22 (.bool true) rfl rfl (by intro x hx; go_simp; (first | done | exact (eqPT (fun b => Result.ok (Next.value (Value.bool b)) x) (((scalar_Alu 112#64 true (btw 0#64 100#64) (btw 0#64 3#64)).u).lo) (((scalar_Alu 112#64 true (btw 0#64 100#64) (btw 0#64 3#64)).u).hi) 0#64 100#64).trans (congrArg (fun b => Result.ok (Next.value (Value.bool b)) x) ((show (eqP ((scalar_Alu 112#64 true (btw 0#64 100#64) (btw 0#64 3#64)).u) (P.mk 0#64 100#64)) = true by decide +kernel))))) ?_
   simp only [sA, sB]
   refine tv 23 (.bool true) rfl rfl (by intro x hx; go_simp; all_goals exact rfl) ?_
   simp only [sA, sB]
   refine tm 24 94 rfl rfl rfl rfl ?_
   simp only [sA, sB]
   refine tc 25 7 #[.int .u64 (tn (1#64))] (vS (Sc.mk (P.mk 1#64 0#64) (P.mk 1#64 1#64) (P.mk 1#64 1#64))) rfl rfl (by intro x hx; exact scalar_Of_any 1#64 _) ?_
   simp only [sA, sB, vS]
   refine tc 26 7 #[.int .u64 (tn (1#64))] (vS (Sc.mk (P.mk 1#64 0#64) (P.mk 1#64 1#64) (P.mk 1#64 1#64))) rfl rfl (by intro x hx; exact scalar_Of_any 1#64 _) ?_
   simp only [sA, sB, vS]
   refine tc 27 8 #[.int .i64 (ti (224#64)), .bool true, vS (Sc.mk (P.mk 1#64 0#64) (P.mk 1#64 1#64) (P.mk 1#64 1#64)), vS (Sc.mk (P.mk 1#64 0#64) (P.mk 1#64 1#64) (P.mk 1#64 1#64))] (vS (scalar_Alu 224#64 true (Sc.mk (P.mk 1#64 0#64) (P.mk 1#64 1#64) (P.mk 1#64 1#64)) (Sc.mk (P.mk 1#64 0#64) (P.mk 1#64 1#64) (P.mk 1#64 1#64)))) rfl rfl (by intro x hx; exact scalar_Alu_any 224#64 true (Sc.mk (P.mk 1#64 0#64) (P.mk 1#64 1#64) (P.mk 1#64 1#64)) (Sc.mk (P.mk 1#64 0#64) (P.mk 1#64 1#64) (P.mk 1#64 1#64)) _ (HT.out.up hx.below)) ?_
   simp only [sA, sB, vS]
   refine tc 28 9 #[] (vS scalar_All) rfl rfl (by intro x hx; exact scalar_All_any _) ?_
   simp only [sA, sB, vS]
   refine tv 29 (.bool true) rfl rfl (by intro x hx; go_simp; (first | done | exact (eqScT (fun b => Result.ok (Next.value (Value.bool b)) x) (((scalar_Alu 224#64 true (Sc.mk (P.mk 1#64 0#64) (P.mk 1#64 1#64) (P.mk 1#64 1#64)) (Sc.mk (P.mk 1#64 0#64) (P.mk 1#64 1#64) (P.mk 1#64 1#64))).t).lo) (((scalar_Alu 224#64 true (Sc.mk (P.mk 1#64 0#64) (P.mk 1#64 1#64) (P.mk 1#64 1#64)) (Sc.mk (P.mk 1#64 0#64) (P.mk 1#64 1#64) (P.mk 1#64 1#64))).t).hi) (((scalar_Alu 224#64 true (Sc.mk (P.mk 1#64 0#64) (P.mk 1#64 1#64) (P.mk 1#64 1#64)) (Sc.mk (P.mk 1#64 0#64) (P.mk 1#64 1#64) (P.mk 1#64 1#64))).u).lo) (((scalar_Alu 224#64 true (Sc.mk (P.mk 1#64 0#64) (P.mk 1#64 1#64) (P.mk 1#64 1#64)) (Sc.mk (P.mk 1#64 0#64) (P.mk 1#64 1#64) (P.mk 1#64 1#64))).u).hi) (((scalar_Alu 224#64 true (Sc.mk (P.mk 1#64 0#64) (P.mk 1#64 1#64) (P.mk 1#64 1#64)) (Sc.mk (P.mk 1#64 0#64) (P.mk 1#64 1#64) (P.mk 1#64 1#64))).s).lo) (((scalar_Alu 224#64 true (Sc.mk (P.mk 1#64 0#64) (P.mk 1#64 1#64) (P.mk 1#64 1#64)) (Sc.mk (P.mk 1#64 0#64) (P.mk 1#64 1#64) (P.mk 1#64 1#64))).s).hi) scalar_All.t.lo scalar_All.t.hi scalar_All.u.lo scalar_All.u.hi scalar_All.s.lo scalar_All.s.hi).trans (congrArg (fun b => Result.ok (Next.value (Value.bool b)) x) ((show (eqSc (scalar_Alu 224#64 true (Sc.mk (P.mk 1#64 0#64) (P.mk 1#64 1#64) (P.mk 1#64 1#64)) (Sc.mk (P.mk 1#64 0#64) (P.mk 1#64 1#64) (P.mk 1#64 1#64))) scalar_All) = true by decide +kernel))))) ?_
   simp only [sA, sB]
   refine tv 30 (.bool true) rfl rfl (by intro x hx; go_simp; all_goals exact rfl) ?_
   simp only [sA, sB]
   refine tm 31 101 rfl rfl rfl rfl ?_
   simp only [sA, sB]
   refine tc 32 10 #[] (.bool true) rfl rfl (by intro x hx; exact law_works_any _ (HT.out.up hx.below)) ?_
   simp only [sA, sB]
   refine tv 33 (.bool true) rfl rfl (by intro x hx; go_simp; all_goals exact rfl) ?_
   simp only [sA, sB]
   refine ta 34 104 rfl rfl rfl rfl ?_
   simp only [sB]
   clear HS
   refine td fun W6 HS => ?_
   go_wp2
   exact bodyPost_ret (v := .bool true) (by simp [results, Tryz.results3, go_sem]) rfl ⟨rfl, HS.out.below⟩
end Go.Proofs.YtmcapfbkedfdkaaGreatDoor.Sp

namespace Go.Proofs.YtmcapfbkedfdkaaGreatDoor.scalarKnown
set_option maxRecDepth 100000
open Go.ChangeShapes Go.WideShapes Go.ChangeAt Go.RowKit Go.Proofs.YtmcapfbkedfdkaaGreatDoor.Num Go.Proofs.YtmcapfbkedfdkaaGreatDoor.Up Go.Proofs.YtmcapfbkedfdkaaGreatDoor.Tn Go.Proofs.YtmcapfbkedfdkaaGreatDoor.Sp
set_option linter.unusedVariables false
theorem own : ownKnob Tryz.prog.godebug = none := by kernel_rfl
theorem laidOut : laidOutB Tryz.prog = true := by kernel_rfl

theorem lifted (os : Os) (started : os.Started) (H : Type) (enc : TypeId × Value → H) :
  ReturnsInHanded {} Tryz.checked os 3 .any (fun w args => (Rows.scalarKnownSpec.pre enc Tryz.prog Tryz.f3 [] false w args ∧ laidMetH Tryz.prog tabL w) ∧ sizedMet enc Tryz.prog Tryz.f3 (OpenSpec.ofChange Rows.scalarKnownSpec) false w args)
   (Rows.scalarKnownSpec.post enc Tryz.prog Tryz.f3 false true false false) := by
 refine returnsInHanded_of_change_and (C := Tryz.checked) (X := fun w _ => laidMetH Tryz.prog tabL w) (fun _ _ _ hh h => h.of_heap hh) own started (by kernel_rfl) Tryz.func3
  (ChangeSpec.witness_shaped (enc := enc) (C := Tryz.checked) (os := os) (X := fun w _ => laidMetH Tryz.prog tabL w) false (World.doorLaid Tryz.prog 400 os) #[] 8 rfl (World.shaped_of_RefB (by kernel_rfl) (by kernel_rfl)) (by kernel_rfl) (by kernel_rfl) (by kernel_rfl) (door_met os _)) ?_
 intro W base args ds gs before hval0 hW _ _ hL _
 have hval : ∀ (j : Nat) t v, Tryz.f3.params[j]? = some t → args[j]? = some v → Value.okWide Tryz.prog W .any base t v := hval0
 have hW' := hW
 obtain ⟨p, q, hA0, hV, rfl, hfz, hnd⟩ := hW
 have hA : DataW.TrodAll enc Tryz.prog W 0 (fun _ => true) true Tryz.f3.params.toList args.toList ds p := hA0
 rw [Tryz.params3] at hA hval
 obtain ⟨rfl, rfl, rfl⟩ := trodAll_none hA
 obtain ⟨rfl, rfl⟩ := trodVars_none hV
 clear hA0 hval0
 simp only [List.append_nil] at hW'
 have HC : Calls Tryz.prog 3 #[] W fun e w' => e = .returned (.bool true) ∧ Below W.heap.size W w' := by
  exact scalarKnown  W (of_laid hL)
 refine HC.mono fun e W' ⟨he, bel⟩ => ?_
 subst he
 exact ⟨_, rfl, _, _, _, [], _, [], hW', trodAll_mk1 (shut_bool Tryz.underlying4 _), rfl, rfl, bel.frame _, fun h => by cases h⟩

theorem over : Rows.ScalarKnownSaid :=
 OpenClaim.holds_of_wide 3 Tryz.f3 rfl rfl rfl rfl rfl rfl rfl ⟨rfl, rfl, rfl, rfl, rfl⟩ rfl rfl rfl rfl rfl (by kernel_rfl) Tryz.func3 (by kernel_rfl)
  (of_decide_eq_true (by kernel_rfl)) (by unfold Func.isWrapper; first | (rw [if_pos (by decide +kernel)]; kernel_rfl) | (rw [if_neg (by decide +kernel)]; exact ⟨rfl, rfl⟩))
  (fun os started H enc _ => lifted os started H enc)

theorem proved : Rows.ScalarKnownCardSaid :=
 Claim7.holds_tied_plain_at .later [] [.data] true (true, "cebbeb4b8e1dfe45c6d4d0bfffa3e200fdbeba5851fdf2bfc0b045efb9c36c6a") false
  over (fun _ h => by cases h) (by kernel_rfl) (fun _ h => by cases h) scalarKnown_row_tie rfl ⟨rfl, rfl⟩ (by kernel_rfl) rfl
  (fun f fn hf hfn => by
   obtain rfl : f = 3 := Option.some.inj ((show Tryz.prog.funcNamed "crossbar/crossbarlaw05.ScalarKnown" = some 3 by kernel_rfl).symm.trans hf) |>.symm
   obtain rfl : fn = Tryz.f3 := (Option.some.inj (Tryz.func3.symm.trans hfn)).symm
   exact ⟨by kernel_rfl, fun j t ht => by
    rw [Tryz.params3] at ht
    have hm : t ∈ ([] : List TypeId) := by simpa using Array.mem_of_getElem? ht
    have hall : (([] : List TypeId).all fun u => !Tryz.prog.wantsStandIn u) = true := by kernel_rfl
    exact (show Tryz.prog.wantsStandIn t = false by simpa using List.all_eq_true.1 hall t hm)⟩)
  (by kernel_rfl)
#print axioms proved
end Go.Proofs.YtmcapfbkedfdkaaGreatDoor.scalarKnown
