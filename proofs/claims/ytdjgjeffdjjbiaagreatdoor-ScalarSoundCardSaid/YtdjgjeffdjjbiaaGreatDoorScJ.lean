/-
  The examples that each law asks.
-/
import Derived.Deep.DeepCutAuto
import Derived.Test.YtdjgjeffdjjbiaaGreatDoorScF
import Derived.Test.YtdjgjeffdjjbiaaGreatDoorScI
import Derived.Test.YtdjgjeffdjjbiaaGreatDoorIf
namespace Go.Proofs.YtdjgjeffdjjbiaaGreatDoor.Sp
open Go.RowKit Go.Proofs.YtdjgjeffdjjbiaaGreatDoor.Num Go.Proofs.YtdjgjeffdjjbiaaGreatDoor.Up
set_option maxRecDepth 100000 in
set_option maxHeartbeats 1000000 in
theorem law_between_any (x0 : BitVec 64) (x1 : BitVec 64)   (w : World) :
    Calls Tryz.prog 28 #[.int .u64 (tn (x0)), .int .u64 (tn (x1))] w fun e w' => e = .returned (vS ((scalar_Norm (Sc.mk scalar_All.t (P.mk x0 x1) scalar_All.s)).1)) ∧ Below w.heap.size w w' := by
  simp only [vS]
  go_enter Tryz.func28, Tryz.ntmps28
  have HS : Hid (St w [⟨w.heap.size, [some (.int .u64 0), some (.int .u64 0), some (.int .u64 0), some (.int .u64 0), some (.int .i64 0), some (.int .i64 0)], 30⟩] _) := hid ((st_nil w).alloc (k := w.heap.size) rfl [.int .u64 0, .int .u64 0, .int .u64 0, .int .u64 0, .int .i64 0, .int .i64 0] 30)
  go_upto_region 1 with fail
  refine lnb HS.out rfl ?_
  refine lc 0 25 #[] (vS scalar_All) rfl rfl (by intro x hx; exact scalar_All_any _) ?_
  simp only [sA, sB, vS]
  refine lin_new (i := 1) rfl rfl (by rfl) [.int .u64 0, .int .u64 0, .int .u64 0, .int .u64 0, .int .i64 0, .int .i64 0] 30 (fun k => .pointer (some ⟨k, 0, none⟩)) [some (.int .u64 0), some (.int .u64 0), some (.int .u64 0), some (.int .u64 0), some (.int .i64 0), some (.int .i64 0)] (lessC_refl _) (by intro x hx; go_simp; (first | done | exact rfl)) (fun k1 => ?_)
  simp only [sA, sB, sC, sD]
  refine ls 2 1 0 (cS scalar_All) rfl rfl rfl (by intro x hx; obtain ⟨⟨_, z0, q0⟩, ⟨_, z1, q1⟩, ⟨_, z2, q2⟩, ⟨_, z3, q3⟩, ⟨_, z4, q4⟩, ⟨_, z5, q5⟩⟩ := hx.at6 1 0 rfl; go_simp; (first | done | rfl)) ?_
  simp only [Blk.putC, setM, cS, sA, sB]
  clear HS
  refine ld fun W1 HS => ?_
  go_upto_region 2 with fail
  refine lnb HS.out rfl ?_
  refine lm 0 0 rfl rfl rfl rfl ?_
  simp only [sA, sB]
  refine lm 1 1 rfl rfl rfl rfl ?_
  simp only [sA, sB]
  refine lv 2 (vU (P.mk x0 x1)) rfl rfl (by intro x hx; go_simp; (first | done | exact rfl)) ?_
  simp only [sA, sB, vU]
  refine lv 3 (.pointer (some ⟨k1, 2, none⟩)) rfl rfl (by intro x hx; go_simp; (first | done | exact rfl)) ?_
  simp only [sA, sB]
  refine ls 4 1 2 (cU (P.mk x0 x1)) rfl rfl rfl (by intro x hx; obtain ⟨⟨_, z0, q0⟩, ⟨_, z1, q1⟩⟩ := hx.at2 1 2 rfl; go_simp; (first | done | rfl)) ?_
  simp only [Blk.putC, setM, cU, sA, sB]
  clear HS
  refine ld fun W2 HS => ?_
  go_upto_region 3 with fail
  refine lnb HS.out rfl ?_
  refine lv 0 (vS (Sc.mk scalar_All.t (P.mk x0 x1) scalar_All.s)) rfl rfl (by intro x hx; obtain ⟨f0, f1, f2, f3, f4, f5⟩ := hx.six 1 0 rfl rfl; go_simp; (first | done | exact rfl)) ?_
  simp only [sA, sB, vS]
  refine lc 1 9 #[vS (Sc.mk scalar_All.t (P.mk x0 x1) scalar_All.s)] (.tuple #[vS ((scalar_Norm (Sc.mk scalar_All.t (P.mk x0 x1) scalar_All.s)).1), .bool ((scalar_Norm (Sc.mk scalar_All.t (P.mk x0 x1) scalar_All.s)).2)]) rfl rfl (by intro x hx; exact scalar_Norm_any (Sc.mk scalar_All.t (P.mk x0 x1) scalar_All.s) _) ?_
  simp only [sA, sB, vS]
  refine lm 2 15 rfl rfl rfl rfl ?_
  simp only [sA, sB]
  refine lv 3 (vS ((scalar_Norm (Sc.mk scalar_All.t (P.mk x0 x1) scalar_All.s)).1)) rfl rfl (by intro x hx; go_simp; (first | done | exact rfl)) ?_
  simp only [sA, sB, vS]
  refine lv 4 (.bool ((scalar_Norm (Sc.mk scalar_All.t (P.mk x0 x1) scalar_All.s)).2)) rfl rfl (by intro x hx; go_simp; (first | done | exact rfl)) ?_
  simp only [sA, sB]
  refine lin_new (i := 5) rfl rfl (by rfl) [.int .u64 0, .int .u64 0, .int .u64 0, .int .u64 0, .int .i64 0, .int .i64 0] 30 (fun k => .pointer (some ⟨k, 0, none⟩)) [some (.int .u64 0), some (.int .u64 0), some (.int .u64 0), some (.int .u64 0), some (.int .i64 0), some (.int .i64 0)] (lessC_refl _) (by intro x hx; go_simp; (first | done | exact rfl)) (fun k2 => ?_)
  simp only [sA, sB, sC, sD]
  refine ls 6 2 0 (cS ((scalar_Norm (Sc.mk scalar_All.t (P.mk x0 x1) scalar_All.s)).1)) rfl rfl rfl (by intro x hx; obtain ⟨⟨_, z0, q0⟩, ⟨_, z1, q1⟩, ⟨_, z2, q2⟩, ⟨_, z3, q3⟩, ⟨_, z4, q4⟩, ⟨_, z5, q5⟩⟩ := hx.at6 2 0 rfl; go_simp; (first | done | rfl)) ?_
  simp only [Blk.putC, setM, cS, sA, sB]
  refine la 7 17 rfl rfl rfl rfl ?_
  simp only [sA, sB]
  clear HS
  refine ld fun W3 HS => ?_
  go_upto_region 4 with fail
  refine lnb HS.out rfl ?_
  refine lv 0 (vS ((scalar_Norm (Sc.mk scalar_All.t (P.mk x0 x1) scalar_All.s)).1)) rfl rfl (by intro x hx; obtain ⟨f0, f1, f2, f3, f4, f5⟩ := hx.six 2 0 rfl rfl; go_simp; (first | done | exact rfl)) ?_
  simp only [sA, sB, vS]
  refine ls 1 0 0 (cS ((scalar_Norm (Sc.mk scalar_All.t (P.mk x0 x1) scalar_All.s)).1)) rfl rfl rfl (by intro x hx; obtain ⟨⟨_, z0, q0⟩, ⟨_, z1, q1⟩, ⟨_, z2, q2⟩, ⟨_, z3, q3⟩, ⟨_, z4, q4⟩, ⟨_, z5, q5⟩⟩ := hx.at6 0 0 rfl; go_simp; (first | done | rfl)) ?_
  simp only [Blk.putC, setM, cS, sA, sB]
  clear HS
  refine ld fun W4 HS => ?_
  go_wp2
  obtain ⟨r0, r1, r2, r3, r4, r5⟩ := HS.out.six 0 0 rfl rfl
  exact bodyPost_ret (v := vS ((scalar_Norm (Sc.mk scalar_All.t (P.mk x0 x1) scalar_All.s)).1)) (by simp [results, Tryz.results28, go_sem, r0, r1, r2, r3, r4, r5, vS]) rfl ⟨rfl, HS.out.below⟩
set_option maxRecDepth 100000 in
set_option maxHeartbeats 4000000 in
theorem law_works_any    (w : World) (hT : Tn.Tab w) :
    Calls Tryz.prog 8 #[] w fun e w' => e = .returned (.bool true) ∧ Below w.heap.size w w' := by
  have HT := hid hT
  clear hT
  go_enter Tryz.func8, Tryz.ntmps8
  have HS : Hid (St w [] _) := hid (st_nil w)
  go_upto_region 1 with fail
  refine lnb HS.out rfl ?_
  refine lc 0 28 #[.int .u64 (tn (4#64)), .int .u64 (tn (7#64))] (vS ((scalar_Norm (Sc.mk scalar_All.t (P.mk 4#64 7#64) scalar_All.s)).1)) rfl rfl (by intro x hx; exact law_between_any 4#64 7#64 _) ?_
  simp only [sA, sB, vS]
  refine lin_new (i := 1) rfl rfl (by rfl) [.int .u64 0, .int .u64 0, .int .u64 0, .int .u64 0, .int .i64 0, .int .i64 0] 30 (fun k => .pointer (some ⟨k, 0, none⟩)) [some (.int .u64 0), some (.int .u64 0), some (.int .u64 0), some (.int .u64 0), some (.int .i64 0), some (.int .i64 0)] (lessC_refl _) (by intro x hx; go_simp; (first | done | exact rfl)) (fun k1 => ?_)
  simp only [sA, sB, sD]
  refine ls 2 0 0 (cS ((scalar_Norm (Sc.mk scalar_All.t (P.mk 4#64 7#64) scalar_All.s)).1)) rfl rfl rfl (by intro x hx; obtain ⟨⟨_, z0, q0⟩, ⟨_, z1, q1⟩, ⟨_, z2, q2⟩, ⟨_, z3, q3⟩, ⟨_, z4, q4⟩, ⟨_, z5, q5⟩⟩ := hx.at6 0 0 rfl; go_simp; (first | done | rfl)) ?_
  simp only [Blk.putC, setM, cS, sA, sB]
  clear HS
  refine ld fun W1 HS => ?_
  go_upto_region 2 with fail
  refine upb 5 (HS.out.drew) rfl ?_
  refine tv 0 (vS ((scalar_Norm (Sc.mk scalar_All.t (P.mk 4#64 7#64) scalar_All.s)).1)) rfl rfl (by intro x hx; obtain ⟨f0, f1, f2, f3, f4, f5⟩ := hx.six 0 0 rfl rfl; go_simp; (first | done | exact rfl)) ?_
  simp only [sA, sB, vS]
  refine tc 1 26 #[.int .u64 (tn (1#64))] (vS (Sc.mk (P.mk 1#64 0#64) (P.mk 1#64 1#64) (P.mk 1#64 1#64))) rfl rfl (by intro x hx; exact scalar_Of_any 1#64 _) ?_
  simp only [sA, sB, vS]
  refine tc 2 19 #[.int .i64 (ti (0#64)), .bool true, vS ((scalar_Norm (Sc.mk scalar_All.t (P.mk 4#64 7#64) scalar_All.s)).1), vS (Sc.mk (P.mk 1#64 0#64) (P.mk 1#64 1#64) (P.mk 1#64 1#64))] (vS (scalar_Alu 0#64 true ((scalar_Norm (Sc.mk scalar_All.t (P.mk 4#64 7#64) scalar_All.s)).1) (Sc.mk (P.mk 1#64 0#64) (P.mk 1#64 1#64) (P.mk 1#64 1#64)))) rfl rfl (by intro x hx; exact scalar_Alu_any 0#64 true ((scalar_Norm (Sc.mk scalar_All.t (P.mk 4#64 7#64) scalar_All.s)).1) (Sc.mk (P.mk 1#64 0#64) (P.mk 1#64 1#64) (P.mk 1#64 1#64)) _ (HT.out.up hx.below)) ?_
  simp only [sA, sB, vS]
  refine take_one (i := 3) (by kernel_rfl) (step_new rfl rfl (by rfl) [.int .u64 0, .int .u64 0, .int .u64 0, .int .u64 0, .int .i64 0, .int .i64 0] 30 (fun k => .pointer (some ⟨k, 0, none⟩)) [none, none, none, none, none, none] (lessC_no (lessC_no (lessC_no (lessC_no (lessC_no (lessC_no (trivial))))))) (by intro x hx; go_simp; (first | done | exact rfl)) (fun k2 => ?_))
  simp only [sA, sB, sC, sD]
  refine ts 4 1 0 (cS (scalar_Alu 0#64 true ((scalar_Norm (Sc.mk scalar_All.t (P.mk 4#64 7#64) scalar_All.s)).1) (Sc.mk (P.mk 1#64 0#64) (P.mk 1#64 1#64) (P.mk 1#64 1#64)))) rfl rfl rfl (by intro x hx; obtain ⟨⟨_, z0, q0⟩, ⟨_, z1, q1⟩, ⟨_, z2, q2⟩, ⟨_, z3, q3⟩, ⟨_, z4, q4⟩, ⟨_, z5, q5⟩⟩ := hx.at6 1 0 rfl; go_simp; (first | done | rfl)) ?_
  simp only [Blk.putC, setM, cS, sA, sB]
  clear HS
  refine td fun W2 HS => ?_
  go_upto_region 3 with fail
  refine lnb HS.out rfl ?_
  refine lc 0 25 #[] (vS scalar_All) rfl rfl (by intro x hx; exact scalar_All_any _) ?_
  simp only [sA, sB, vS]
  refine lc 1 26 #[.int .u64 (tn (16#64))] (vS (Sc.mk (P.mk 16#64 0#64) (P.mk 16#64 16#64) (P.mk 16#64 16#64))) rfl rfl (by intro x hx; exact scalar_Of_any 16#64 _) ?_
  simp only [sA, sB, vS]
  refine lc 2 11 #[.int .i64 (ti (160#64)), .bool true, vS scalar_All, vS (Sc.mk (P.mk 16#64 0#64) (P.mk 16#64 16#64) (P.mk 16#64 16#64)), .bool true] (.tuple #[vS ((scalar_Branch 160#64 true scalar_All (Sc.mk (P.mk 16#64 0#64) (P.mk 16#64 16#64) (P.mk 16#64 16#64)) true).1), vS ((scalar_Branch 160#64 true scalar_All (Sc.mk (P.mk 16#64 0#64) (P.mk 16#64 16#64) (P.mk 16#64 16#64)) true).2.1), .bool ((scalar_Branch 160#64 true scalar_All (Sc.mk (P.mk 16#64 0#64) (P.mk 16#64 16#64) (P.mk 16#64 16#64)) true).2.2)]) rfl rfl (by intro x hx; exact scalar_Branch_any 160#64 true scalar_All (Sc.mk (P.mk 16#64 0#64) (P.mk 16#64 16#64) (P.mk 16#64 16#64)) true _) ?_
  simp only [sA, sB, vS]
  refine lm 3 19 rfl rfl rfl rfl ?_
  simp only [sA, sB]
  refine lv 4 (vS ((scalar_Branch 160#64 true scalar_All (Sc.mk (P.mk 16#64 0#64) (P.mk 16#64 16#64) (P.mk 16#64 16#64)) true).1)) rfl rfl (by intro x hx; go_simp; (first | done | exact rfl)) ?_
  simp only [sA, sB, vS]
  refine lv 5 (vS ((scalar_Branch 160#64 true scalar_All (Sc.mk (P.mk 16#64 0#64) (P.mk 16#64 16#64) (P.mk 16#64 16#64)) true).2.1)) rfl rfl (by intro x hx; go_simp; (first | done | exact rfl)) ?_
  simp only [sA, sB, vS]
  refine lv 6 (.bool ((scalar_Branch 160#64 true scalar_All (Sc.mk (P.mk 16#64 0#64) (P.mk 16#64 16#64) (P.mk 16#64 16#64)) true).2.2)) rfl rfl (by intro x hx; go_simp; (first | done | exact rfl)) ?_
  simp only [sA, sB]
  refine lin_new (i := 7) rfl rfl (by rfl) [.int .u64 0, .int .u64 0, .int .u64 0, .int .u64 0, .int .i64 0, .int .i64 0] 30 (fun k => .pointer (some ⟨k, 0, none⟩)) [some (.int .u64 0), some (.int .u64 0), some (.int .u64 0), some (.int .u64 0), some (.int .i64 0), some (.int .i64 0)] (lessC_refl _) (by intro x hx; go_simp; (first | done | exact rfl)) (fun k3 => ?_)
  simp only [sA, sB, sC, sD]
  refine lin_new (i := 8) rfl rfl (by rfl) [.int .u64 0, .int .u64 0, .int .u64 0, .int .u64 0, .int .i64 0, .int .i64 0] 30 (fun k => .pointer (some ⟨k, 0, none⟩)) [some (.int .u64 0), some (.int .u64 0), some (.int .u64 0), some (.int .u64 0), some (.int .i64 0), some (.int .i64 0)] (lessC_refl _) (by intro x hx; go_simp; (first | done | exact rfl)) (fun k4 => ?_)
  simp only [sA, sB, sC, sD]
  refine ls 9 2 0 (cS ((scalar_Branch 160#64 true scalar_All (Sc.mk (P.mk 16#64 0#64) (P.mk 16#64 16#64) (P.mk 16#64 16#64)) true).1)) rfl rfl rfl (by intro x hx; obtain ⟨⟨_, z0, q0⟩, ⟨_, z1, q1⟩, ⟨_, z2, q2⟩, ⟨_, z3, q3⟩, ⟨_, z4, q4⟩, ⟨_, z5, q5⟩⟩ := hx.at6 2 0 rfl; go_simp; (first | done | rfl)) ?_
  simp only [Blk.putC, setM, cS, sA, sB]
  refine ls 10 3 0 (cS ((scalar_Branch 160#64 true scalar_All (Sc.mk (P.mk 16#64 0#64) (P.mk 16#64 16#64) (P.mk 16#64 16#64)) true).2.1)) rfl rfl rfl (by intro x hx; obtain ⟨⟨_, z0, q0⟩, ⟨_, z1, q1⟩, ⟨_, z2, q2⟩, ⟨_, z3, q3⟩, ⟨_, z4, q4⟩, ⟨_, z5, q5⟩⟩ := hx.at6 3 0 rfl; go_simp; (first | done | rfl)) ?_
  simp only [Blk.putC, setM, cS, sA, sB]
  refine la 11 22 rfl rfl rfl rfl ?_
  simp only [sA, sB]
  clear HS
  refine ld fun W3 HS => ?_
  go_upto_region 4 with fail
  refine lnb HS.out rfl ?_
  refine lc 0 28 #[.int .u64 (tn (0#64)), .int .u64 (tn (1#64))] (vS ((scalar_Norm (Sc.mk scalar_All.t (P.mk 0#64 1#64) scalar_All.s)).1)) rfl rfl (by intro x hx; exact law_between_any 0#64 1#64 _) ?_
  simp only [sA, sB, vS]
  refine lc 1 26 #[.int .u64 (tn (0#64))] (vS (Sc.mk (P.mk 0#64 0#64) (P.mk 0#64 0#64) (P.mk 0#64 0#64))) rfl rfl (by intro x hx; exact scalar_Of_any 0#64 _) ?_
  simp only [sA, sB, vS]
  refine lc 2 11 #[.int .i64 (ti (80#64)), .bool true, vS ((scalar_Norm (Sc.mk scalar_All.t (P.mk 0#64 1#64) scalar_All.s)).1), vS (Sc.mk (P.mk 0#64 0#64) (P.mk 0#64 0#64) (P.mk 0#64 0#64)), .bool true] (.tuple #[vS ((scalar_Branch 80#64 true ((scalar_Norm (Sc.mk scalar_All.t (P.mk 0#64 1#64) scalar_All.s)).1) (Sc.mk (P.mk 0#64 0#64) (P.mk 0#64 0#64) (P.mk 0#64 0#64)) true).1), vS ((scalar_Branch 80#64 true ((scalar_Norm (Sc.mk scalar_All.t (P.mk 0#64 1#64) scalar_All.s)).1) (Sc.mk (P.mk 0#64 0#64) (P.mk 0#64 0#64) (P.mk 0#64 0#64)) true).2.1), .bool ((scalar_Branch 80#64 true ((scalar_Norm (Sc.mk scalar_All.t (P.mk 0#64 1#64) scalar_All.s)).1) (Sc.mk (P.mk 0#64 0#64) (P.mk 0#64 0#64) (P.mk 0#64 0#64)) true).2.2)]) rfl rfl (by intro x hx; exact scalar_Branch_any 80#64 true ((scalar_Norm (Sc.mk scalar_All.t (P.mk 0#64 1#64) scalar_All.s)).1) (Sc.mk (P.mk 0#64 0#64) (P.mk 0#64 0#64) (P.mk 0#64 0#64)) true _) ?_
  simp only [sA, sB, vS]
  refine lm 3 26 rfl rfl rfl rfl ?_
  simp only [sA, sB]
  refine lv 4 (vS ((scalar_Branch 80#64 true ((scalar_Norm (Sc.mk scalar_All.t (P.mk 0#64 1#64) scalar_All.s)).1) (Sc.mk (P.mk 0#64 0#64) (P.mk 0#64 0#64) (P.mk 0#64 0#64)) true).1)) rfl rfl (by intro x hx; go_simp; (first | done | exact rfl)) ?_
  simp only [sA, sB, vS]
  refine lv 5 (vS ((scalar_Branch 80#64 true ((scalar_Norm (Sc.mk scalar_All.t (P.mk 0#64 1#64) scalar_All.s)).1) (Sc.mk (P.mk 0#64 0#64) (P.mk 0#64 0#64) (P.mk 0#64 0#64)) true).2.1)) rfl rfl (by intro x hx; go_simp; (first | done | exact rfl)) ?_
  simp only [sA, sB, vS]
  refine lv 6 (.bool ((scalar_Branch 80#64 true ((scalar_Norm (Sc.mk scalar_All.t (P.mk 0#64 1#64) scalar_All.s)).1) (Sc.mk (P.mk 0#64 0#64) (P.mk 0#64 0#64) (P.mk 0#64 0#64)) true).2.2)) rfl rfl (by intro x hx; go_simp; (first | done | exact rfl)) ?_
  simp only [sA, sB]
  refine lin_new (i := 7) rfl rfl (by rfl) [.int .u64 0, .int .u64 0, .int .u64 0, .int .u64 0, .int .i64 0, .int .i64 0] 30 (fun k => .pointer (some ⟨k, 0, none⟩)) [some (.int .u64 0), some (.int .u64 0), some (.int .u64 0), some (.int .u64 0), some (.int .i64 0), some (.int .i64 0)] (lessC_refl _) (by intro x hx; go_simp; (first | done | exact rfl)) (fun k5 => ?_)
  simp only [sA, sB, sC, sD]
  refine lin_new (i := 8) rfl rfl (by rfl) [.int .u64 0, .int .u64 0, .int .u64 0, .int .u64 0, .int .i64 0, .int .i64 0] 30 (fun k => .pointer (some ⟨k, 0, none⟩)) [some (.int .u64 0), some (.int .u64 0), some (.int .u64 0), some (.int .u64 0), some (.int .i64 0), some (.int .i64 0)] (lessC_refl _) (by intro x hx; go_simp; (first | done | exact rfl)) (fun k6 => ?_)
  simp only [sA, sB, sC, sD]
  refine ls 9 4 0 (cS ((scalar_Branch 80#64 true ((scalar_Norm (Sc.mk scalar_All.t (P.mk 0#64 1#64) scalar_All.s)).1) (Sc.mk (P.mk 0#64 0#64) (P.mk 0#64 0#64) (P.mk 0#64 0#64)) true).1)) rfl rfl rfl (by intro x hx; obtain ⟨⟨_, z0, q0⟩, ⟨_, z1, q1⟩, ⟨_, z2, q2⟩, ⟨_, z3, q3⟩, ⟨_, z4, q4⟩, ⟨_, z5, q5⟩⟩ := hx.at6 4 0 rfl; go_simp; (first | done | rfl)) ?_
  simp only [Blk.putC, setM, cS, sA, sB]
  refine ls 10 5 0 (cS ((scalar_Branch 80#64 true ((scalar_Norm (Sc.mk scalar_All.t (P.mk 0#64 1#64) scalar_All.s)).1) (Sc.mk (P.mk 0#64 0#64) (P.mk 0#64 0#64) (P.mk 0#64 0#64)) true).2.1)) rfl rfl rfl (by intro x hx; obtain ⟨⟨_, z0, q0⟩, ⟨_, z1, q1⟩, ⟨_, z2, q2⟩, ⟨_, z3, q3⟩, ⟨_, z4, q4⟩, ⟨_, z5, q5⟩⟩ := hx.at6 5 0 rfl; go_simp; (first | done | rfl)) ?_
  simp only [Blk.putC, setM, cS, sA, sB]
  refine la 11 29 rfl rfl rfl rfl ?_
  simp only [sA, sB]
  clear HS
  refine ld fun W4 HS => ?_
  go_upto_region 5 with fail
  refine lnb HS.out rfl ?_
  refine lc 0 28 #[.int .u64 (tn (0#64)), .int .u64 (tn (3#64))] (vS ((scalar_Norm (Sc.mk scalar_All.t (P.mk 0#64 3#64) scalar_All.s)).1)) rfl rfl (by intro x hx; exact law_between_any 0#64 3#64 _) ?_
  simp only [sA, sB, vS]
  refine lc 1 26 #[.int .u64 (tn (5#64))] (vS (Sc.mk (P.mk 5#64 0#64) (P.mk 5#64 5#64) (P.mk 5#64 5#64))) rfl rfl (by intro x hx; exact scalar_Of_any 5#64 _) ?_
  simp only [sA, sB, vS]
  refine lc 2 11 #[.int .i64 (ti (32#64)), .bool true, vS ((scalar_Norm (Sc.mk scalar_All.t (P.mk 0#64 3#64) scalar_All.s)).1), vS (Sc.mk (P.mk 5#64 0#64) (P.mk 5#64 5#64) (P.mk 5#64 5#64)), .bool true] (.tuple #[vS ((scalar_Branch 32#64 true ((scalar_Norm (Sc.mk scalar_All.t (P.mk 0#64 3#64) scalar_All.s)).1) (Sc.mk (P.mk 5#64 0#64) (P.mk 5#64 5#64) (P.mk 5#64 5#64)) true).1), vS ((scalar_Branch 32#64 true ((scalar_Norm (Sc.mk scalar_All.t (P.mk 0#64 3#64) scalar_All.s)).1) (Sc.mk (P.mk 5#64 0#64) (P.mk 5#64 5#64) (P.mk 5#64 5#64)) true).2.1), .bool ((scalar_Branch 32#64 true ((scalar_Norm (Sc.mk scalar_All.t (P.mk 0#64 3#64) scalar_All.s)).1) (Sc.mk (P.mk 5#64 0#64) (P.mk 5#64 5#64) (P.mk 5#64 5#64)) true).2.2)]) rfl rfl (by intro x hx; exact scalar_Branch_any 32#64 true ((scalar_Norm (Sc.mk scalar_All.t (P.mk 0#64 3#64) scalar_All.s)).1) (Sc.mk (P.mk 5#64 0#64) (P.mk 5#64 5#64) (P.mk 5#64 5#64)) true _) ?_
  simp only [sA, sB, vS]
  refine lm 3 33 rfl rfl rfl rfl ?_
  simp only [sA, sB]
  refine lv 4 (vS ((scalar_Branch 32#64 true ((scalar_Norm (Sc.mk scalar_All.t (P.mk 0#64 3#64) scalar_All.s)).1) (Sc.mk (P.mk 5#64 0#64) (P.mk 5#64 5#64) (P.mk 5#64 5#64)) true).1)) rfl rfl (by intro x hx; go_simp; (first | done | exact rfl)) ?_
  simp only [sA, sB, vS]
  refine lv 5 (vS ((scalar_Branch 32#64 true ((scalar_Norm (Sc.mk scalar_All.t (P.mk 0#64 3#64) scalar_All.s)).1) (Sc.mk (P.mk 5#64 0#64) (P.mk 5#64 5#64) (P.mk 5#64 5#64)) true).2.1)) rfl rfl (by intro x hx; go_simp; (first | done | exact rfl)) ?_
  simp only [sA, sB, vS]
  refine lv 6 (.bool ((scalar_Branch 32#64 true ((scalar_Norm (Sc.mk scalar_All.t (P.mk 0#64 3#64) scalar_All.s)).1) (Sc.mk (P.mk 5#64 0#64) (P.mk 5#64 5#64) (P.mk 5#64 5#64)) true).2.2)) rfl rfl (by intro x hx; go_simp; (first | done | exact rfl)) ?_
  simp only [sA, sB]
  refine lin_new (i := 7) rfl rfl (by rfl) [.int .u64 0, .int .u64 0, .int .u64 0, .int .u64 0, .int .i64 0, .int .i64 0] 30 (fun k => .pointer (some ⟨k, 0, none⟩)) [some (.int .u64 0), some (.int .u64 0), some (.int .u64 0), some (.int .u64 0), some (.int .i64 0), some (.int .i64 0)] (lessC_refl _) (by intro x hx; go_simp; (first | done | exact rfl)) (fun k7 => ?_)
  simp only [sA, sB, sC, sD]
  refine lin_new (i := 8) rfl rfl (by rfl) [.int .u64 0, .int .u64 0, .int .u64 0, .int .u64 0, .int .i64 0, .int .i64 0] 30 (fun k => .pointer (some ⟨k, 0, none⟩)) [some (.int .u64 0), some (.int .u64 0), some (.int .u64 0), some (.int .u64 0), some (.int .i64 0), some (.int .i64 0)] (lessC_refl _) (by intro x hx; go_simp; (first | done | exact rfl)) (fun k8 => ?_)
  simp only [sA, sB, sC, sD]
  refine ls 9 6 0 (cS ((scalar_Branch 32#64 true ((scalar_Norm (Sc.mk scalar_All.t (P.mk 0#64 3#64) scalar_All.s)).1) (Sc.mk (P.mk 5#64 0#64) (P.mk 5#64 5#64) (P.mk 5#64 5#64)) true).1)) rfl rfl rfl (by intro x hx; obtain ⟨⟨_, z0, q0⟩, ⟨_, z1, q1⟩, ⟨_, z2, q2⟩, ⟨_, z3, q3⟩, ⟨_, z4, q4⟩, ⟨_, z5, q5⟩⟩ := hx.at6 6 0 rfl; go_simp; (first | done | rfl)) ?_
  simp only [Blk.putC, setM, cS, sA, sB]
  refine ls 10 7 0 (cS ((scalar_Branch 32#64 true ((scalar_Norm (Sc.mk scalar_All.t (P.mk 0#64 3#64) scalar_All.s)).1) (Sc.mk (P.mk 5#64 0#64) (P.mk 5#64 5#64) (P.mk 5#64 5#64)) true).2.1)) rfl rfl rfl (by intro x hx; obtain ⟨⟨_, z0, q0⟩, ⟨_, z1, q1⟩, ⟨_, z2, q2⟩, ⟨_, z3, q3⟩, ⟨_, z4, q4⟩, ⟨_, z5, q5⟩⟩ := hx.at6 7 0 rfl; go_simp; (first | done | rfl)) ?_
  simp only [Blk.putC, setM, cS, sA, sB]
  refine la 11 36 rfl rfl rfl rfl ?_
  simp only [sA, sB]
  clear HS
  refine ld fun W5 HS => ?_
  go_upto_region 6 with fail
  refine upb 49 (HS.out.drew) rfl ?_
  refine tv 0 (.pointer (some ⟨k1, 0, none⟩)) rfl rfl (by intro x hx; go_simp; (first | done | exact rfl)) ?_
  simp only [sA, sB]
  refine tv 1 (vU (((scalar_Norm (Sc.mk scalar_All.t (P.mk 4#64 7#64) scalar_All.s)).1).t)) rfl rfl (by intro x hx; obtain ⟨f0, f1⟩ := hx.two 0 0 rfl rfl; go_simp; (first | done | exact rfl)) ?_
  simp only [sA, sB, vU]
  refine tv 2 (.agg #[.int .u64 4, .int .u64 3]) rfl rfl (by intro x hx; go_simp; (first | done | exact rfl)) ?_
  simp only [sA, sB]
  refine tv 3 (.bool true) rfl rfl (by intro x hx; go_simp; (first | done | exact (eqPT (fun b => Result.ok (Next.value (Value.bool b)) x) ((((scalar_Norm (Sc.mk scalar_All.t (P.mk 4#64 7#64) scalar_All.s)).1).t).lo) ((((scalar_Norm (Sc.mk scalar_All.t (P.mk 4#64 7#64) scalar_All.s)).1).t).hi) 4#64 3#64).trans (congrArg (fun b => Result.ok (Next.value (Value.bool b)) x) ((show (eqP (((scalar_Norm (Sc.mk scalar_All.t (P.mk 4#64 7#64) scalar_All.s)).1).t) (P.mk 4#64 3#64)) = true by decide +kernel))))) ?_
  simp only [sA, sB]
  refine tm 4 40 rfl rfl rfl rfl ?_
  simp only [sA, sB]
  refine tv 5 (.pointer (some ⟨k2, 2, none⟩)) rfl rfl (by intro x hx; go_simp; (first | done | exact rfl)) ?_
  simp only [sA, sB]
  refine tv 6 (vU ((scalar_Alu 0#64 true ((scalar_Norm (Sc.mk scalar_All.t (P.mk 4#64 7#64) scalar_All.s)).1) (Sc.mk (P.mk 1#64 0#64) (P.mk 1#64 1#64) (P.mk 1#64 1#64))).u)) rfl rfl (by intro x hx; obtain ⟨f0, f1⟩ := hx.two 1 2 rfl rfl; go_simp; (first | done | exact rfl)) ?_
  simp only [sA, sB, vU]
  refine tv 7 (.agg #[.int .u64 5, .int .u64 8]) rfl rfl (by intro x hx; go_simp; (first | done | exact rfl)) ?_
  simp only [sA, sB]
  refine tv 8 (.bool true) rfl rfl (by intro x hx; go_simp; (first | done | exact (eqPT (fun b => Result.ok (Next.value (Value.bool b)) x) (((scalar_Alu 0#64 true ((scalar_Norm (Sc.mk scalar_All.t (P.mk 4#64 7#64) scalar_All.s)).1) (Sc.mk (P.mk 1#64 0#64) (P.mk 1#64 1#64) (P.mk 1#64 1#64))).u).lo) (((scalar_Alu 0#64 true ((scalar_Norm (Sc.mk scalar_All.t (P.mk 4#64 7#64) scalar_All.s)).1) (Sc.mk (P.mk 1#64 0#64) (P.mk 1#64 1#64) (P.mk 1#64 1#64))).u).hi) 5#64 8#64).trans (congrArg (fun b => Result.ok (Next.value (Value.bool b)) x) ((show (eqP ((scalar_Alu 0#64 true ((scalar_Norm (Sc.mk scalar_All.t (P.mk 4#64 7#64) scalar_All.s)).1) (Sc.mk (P.mk 1#64 0#64) (P.mk 1#64 1#64) (P.mk 1#64 1#64))).u) (P.mk 5#64 8#64)) = true by decide +kernel))))) ?_
  simp only [sA, sB]
  refine tv 9 (.bool true) rfl rfl (by intro x hx; go_simp; (first | done | exact rfl)) ?_
  simp only [sA, sB]
  refine tm 10 46 rfl rfl rfl rfl ?_
  simp only [sA, sB]
  refine tv 11 (.pointer (some ⟨k2, 0, none⟩)) rfl rfl (by intro x hx; go_simp; (first | done | exact rfl)) ?_
  simp only [sA, sB]
  refine tv 12 (vU ((scalar_Alu 0#64 true ((scalar_Norm (Sc.mk scalar_All.t (P.mk 4#64 7#64) scalar_All.s)).1) (Sc.mk (P.mk 1#64 0#64) (P.mk 1#64 1#64) (P.mk 1#64 1#64))).t)) rfl rfl (by intro x hx; obtain ⟨f0, f1⟩ := hx.two 1 0 rfl rfl; go_simp; (first | done | exact rfl)) ?_
  simp only [sA, sB, vU]
  refine tv 13 (.agg #[.int .u64 0, .int .u64 15]) rfl rfl (by intro x hx; go_simp; (first | done | exact rfl)) ?_
  simp only [sA, sB]
  refine tv 14 (.bool true) rfl rfl (by intro x hx; go_simp; (first | done | exact (eqPT (fun b => Result.ok (Next.value (Value.bool b)) x) (((scalar_Alu 0#64 true ((scalar_Norm (Sc.mk scalar_All.t (P.mk 4#64 7#64) scalar_All.s)).1) (Sc.mk (P.mk 1#64 0#64) (P.mk 1#64 1#64) (P.mk 1#64 1#64))).t).lo) (((scalar_Alu 0#64 true ((scalar_Norm (Sc.mk scalar_All.t (P.mk 4#64 7#64) scalar_All.s)).1) (Sc.mk (P.mk 1#64 0#64) (P.mk 1#64 1#64) (P.mk 1#64 1#64))).t).hi) 0#64 15#64).trans (congrArg (fun b => Result.ok (Next.value (Value.bool b)) x) ((show (eqP ((scalar_Alu 0#64 true ((scalar_Norm (Sc.mk scalar_All.t (P.mk 4#64 7#64) scalar_All.s)).1) (Sc.mk (P.mk 1#64 0#64) (P.mk 1#64 1#64) (P.mk 1#64 1#64))).t) (P.mk 0#64 15#64)) = true by decide +kernel))))) ?_
  simp only [sA, sB]
  refine tv 15 (.bool true) rfl rfl (by intro x hx; go_simp; (first | done | exact rfl)) ?_
  simp only [sA, sB]
  refine tm 16 52 rfl rfl rfl rfl ?_
  simp only [sA, sB]
  refine tv 17 (vS ((scalar_Norm (Sc.mk scalar_All.t (P.mk 4#64 7#64) scalar_All.s)).1)) rfl rfl (by intro x hx; obtain ⟨f0, f1, f2, f3, f4, f5⟩ := hx.six 0 0 rfl rfl; go_simp; (first | done | exact rfl)) ?_
  simp only [sA, sB, vS]
  refine tc 18 26 #[.int .u64 (tn (4#64))] (vS (Sc.mk (P.mk 4#64 0#64) (P.mk 4#64 4#64) (P.mk 4#64 4#64))) rfl rfl (by intro x hx; exact scalar_Of_any 4#64 _) ?_
  simp only [sA, sB, vS]
  refine tc 19 19 #[.int .i64 (ti (80#64)), .bool true, vS ((scalar_Norm (Sc.mk scalar_All.t (P.mk 4#64 7#64) scalar_All.s)).1), vS (Sc.mk (P.mk 4#64 0#64) (P.mk 4#64 4#64) (P.mk 4#64 4#64))] (vS (scalar_Alu 80#64 true ((scalar_Norm (Sc.mk scalar_All.t (P.mk 4#64 7#64) scalar_All.s)).1) (Sc.mk (P.mk 4#64 0#64) (P.mk 4#64 4#64) (P.mk 4#64 4#64)))) rfl rfl (by intro x hx; exact scalar_Alu_any 80#64 true ((scalar_Norm (Sc.mk scalar_All.t (P.mk 4#64 7#64) scalar_All.s)).1) (Sc.mk (P.mk 4#64 0#64) (P.mk 4#64 4#64) (P.mk 4#64 4#64)) _ (HT.out.up hx.below)) ?_
  simp only [sA, sB, vS]
  refine tc 20 26 #[.int .u64 (tn (4#64))] (vS (Sc.mk (P.mk 4#64 0#64) (P.mk 4#64 4#64) (P.mk 4#64 4#64))) rfl rfl (by intro x hx; exact scalar_Of_any 4#64 _) ?_
  simp only [sA, sB, vS]
  refine tv 21 (.bool true) rfl rfl (by intro x hx; go_simp; (first | done | exact (eqScT (fun b => Result.ok (Next.value (Value.bool b)) x) (((scalar_Alu 80#64 true ((scalar_Norm (Sc.mk scalar_All.t (P.mk 4#64 7#64) scalar_All.s)).1) (Sc.mk (P.mk 4#64 0#64) (P.mk 4#64 4#64) (P.mk 4#64 4#64))).t).lo) (((scalar_Alu 80#64 true ((scalar_Norm (Sc.mk scalar_All.t (P.mk 4#64 7#64) scalar_All.s)).1) (Sc.mk (P.mk 4#64 0#64) (P.mk 4#64 4#64) (P.mk 4#64 4#64))).t).hi) (((scalar_Alu 80#64 true ((scalar_Norm (Sc.mk scalar_All.t (P.mk 4#64 7#64) scalar_All.s)).1) (Sc.mk (P.mk 4#64 0#64) (P.mk 4#64 4#64) (P.mk 4#64 4#64))).u).lo) (((scalar_Alu 80#64 true ((scalar_Norm (Sc.mk scalar_All.t (P.mk 4#64 7#64) scalar_All.s)).1) (Sc.mk (P.mk 4#64 0#64) (P.mk 4#64 4#64) (P.mk 4#64 4#64))).u).hi) (((scalar_Alu 80#64 true ((scalar_Norm (Sc.mk scalar_All.t (P.mk 4#64 7#64) scalar_All.s)).1) (Sc.mk (P.mk 4#64 0#64) (P.mk 4#64 4#64) (P.mk 4#64 4#64))).s).lo) (((scalar_Alu 80#64 true ((scalar_Norm (Sc.mk scalar_All.t (P.mk 4#64 7#64) scalar_All.s)).1) (Sc.mk (P.mk 4#64 0#64) (P.mk 4#64 4#64) (P.mk 4#64 4#64))).s).hi) 4#64 0#64 4#64 4#64 4#64 4#64).trans (congrArg (fun b => Result.ok (Next.value (Value.bool b)) x) ((show (eqSc (scalar_Alu 80#64 true ((scalar_Norm (Sc.mk scalar_All.t (P.mk 4#64 7#64) scalar_All.s)).1) (Sc.mk (P.mk 4#64 0#64) (P.mk 4#64 4#64) (P.mk 4#64 4#64))) (Sc.mk (P.mk 4#64 0#64) (P.mk 4#64 4#64) (P.mk 4#64 4#64))) = true by decide +kernel))))) ?_
  simp only [sA, sB]
  refine tv 22 (.bool true) rfl rfl (by intro x hx; go_simp; (first | done | exact rfl)) ?_
  simp only [sA, sB]
  refine tm 23 59 rfl rfl rfl rfl ?_
  simp only [sA, sB]
  refine tv 24 (vS ((scalar_Branch 160#64 true scalar_All (Sc.mk (P.mk 16#64 0#64) (P.mk 16#64 16#64) (P.mk 16#64 16#64)) true).1)) rfl rfl (by intro x hx; obtain ⟨f0, f1, f2, f3, f4, f5⟩ := hx.six 2 0 rfl rfl; go_simp; (first | done | exact rfl)) ?_
  simp only [sA, sB, vS]
  refine tc 25 28 #[.int .u64 (tn (0#64)), .int .u64 (tn (15#64))] (vS ((scalar_Norm (Sc.mk scalar_All.t (P.mk 0#64 15#64) scalar_All.s)).1)) rfl rfl (by intro x hx; exact law_between_any 0#64 15#64 _) ?_
  simp only [sA, sB, vS]
  refine tv 26 (.bool true) rfl rfl (by intro x hx; go_simp; (first | done | exact (eqScT (fun b => Result.ok (Next.value (Value.bool b)) x) ((((scalar_Branch 160#64 true scalar_All (Sc.mk (P.mk 16#64 0#64) (P.mk 16#64 16#64) (P.mk 16#64 16#64)) true).1).t).lo) ((((scalar_Branch 160#64 true scalar_All (Sc.mk (P.mk 16#64 0#64) (P.mk 16#64 16#64) (P.mk 16#64 16#64)) true).1).t).hi) ((((scalar_Branch 160#64 true scalar_All (Sc.mk (P.mk 16#64 0#64) (P.mk 16#64 16#64) (P.mk 16#64 16#64)) true).1).u).lo) ((((scalar_Branch 160#64 true scalar_All (Sc.mk (P.mk 16#64 0#64) (P.mk 16#64 16#64) (P.mk 16#64 16#64)) true).1).u).hi) ((((scalar_Branch 160#64 true scalar_All (Sc.mk (P.mk 16#64 0#64) (P.mk 16#64 16#64) (P.mk 16#64 16#64)) true).1).s).lo) ((((scalar_Branch 160#64 true scalar_All (Sc.mk (P.mk 16#64 0#64) (P.mk 16#64 16#64) (P.mk 16#64 16#64)) true).1).s).hi) ((((scalar_Norm (Sc.mk scalar_All.t (P.mk 0#64 15#64) scalar_All.s)).1).t).lo) ((((scalar_Norm (Sc.mk scalar_All.t (P.mk 0#64 15#64) scalar_All.s)).1).t).hi) ((((scalar_Norm (Sc.mk scalar_All.t (P.mk 0#64 15#64) scalar_All.s)).1).u).lo) ((((scalar_Norm (Sc.mk scalar_All.t (P.mk 0#64 15#64) scalar_All.s)).1).u).hi) ((((scalar_Norm (Sc.mk scalar_All.t (P.mk 0#64 15#64) scalar_All.s)).1).s).lo) ((((scalar_Norm (Sc.mk scalar_All.t (P.mk 0#64 15#64) scalar_All.s)).1).s).hi)).trans (congrArg (fun b => Result.ok (Next.value (Value.bool b)) x) ((show (eqSc ((scalar_Branch 160#64 true scalar_All (Sc.mk (P.mk 16#64 0#64) (P.mk 16#64 16#64) (P.mk 16#64 16#64)) true).1) ((scalar_Norm (Sc.mk scalar_All.t (P.mk 0#64 15#64) scalar_All.s)).1)) = true by decide +kernel))))) ?_
  simp only [sA, sB]
  refine tv 27 (.bool true) rfl rfl (by intro x hx; go_simp; (first | done | exact rfl)) ?_
  simp only [sA, sB]
  refine tm 28 64 rfl rfl rfl rfl ?_
  simp only [sA, sB]
  refine tv 29 (vS ((scalar_Branch 160#64 true scalar_All (Sc.mk (P.mk 16#64 0#64) (P.mk 16#64 16#64) (P.mk 16#64 16#64)) true).2.1)) rfl rfl (by intro x hx; obtain ⟨f0, f1, f2, f3, f4, f5⟩ := hx.six 3 0 rfl rfl; go_simp; (first | done | exact rfl)) ?_
  simp only [sA, sB, vS]
  refine tc 30 26 #[.int .u64 (tn (16#64))] (vS (Sc.mk (P.mk 16#64 0#64) (P.mk 16#64 16#64) (P.mk 16#64 16#64))) rfl rfl (by intro x hx; exact scalar_Of_any 16#64 _) ?_
  simp only [sA, sB, vS]
  refine tv 31 (.bool true) rfl rfl (by intro x hx; go_simp; (first | done | exact (eqScT (fun b => Result.ok (Next.value (Value.bool b)) x) ((((scalar_Branch 160#64 true scalar_All (Sc.mk (P.mk 16#64 0#64) (P.mk 16#64 16#64) (P.mk 16#64 16#64)) true).2.1).t).lo) ((((scalar_Branch 160#64 true scalar_All (Sc.mk (P.mk 16#64 0#64) (P.mk 16#64 16#64) (P.mk 16#64 16#64)) true).2.1).t).hi) ((((scalar_Branch 160#64 true scalar_All (Sc.mk (P.mk 16#64 0#64) (P.mk 16#64 16#64) (P.mk 16#64 16#64)) true).2.1).u).lo) ((((scalar_Branch 160#64 true scalar_All (Sc.mk (P.mk 16#64 0#64) (P.mk 16#64 16#64) (P.mk 16#64 16#64)) true).2.1).u).hi) ((((scalar_Branch 160#64 true scalar_All (Sc.mk (P.mk 16#64 0#64) (P.mk 16#64 16#64) (P.mk 16#64 16#64)) true).2.1).s).lo) ((((scalar_Branch 160#64 true scalar_All (Sc.mk (P.mk 16#64 0#64) (P.mk 16#64 16#64) (P.mk 16#64 16#64)) true).2.1).s).hi) 16#64 0#64 16#64 16#64 16#64 16#64).trans (congrArg (fun b => Result.ok (Next.value (Value.bool b)) x) ((show (eqSc ((scalar_Branch 160#64 true scalar_All (Sc.mk (P.mk 16#64 0#64) (P.mk 16#64 16#64) (P.mk 16#64 16#64)) true).2.1) (Sc.mk (P.mk 16#64 0#64) (P.mk 16#64 16#64) (P.mk 16#64 16#64))) = true by decide +kernel))))) ?_
  simp only [sA, sB]
  refine tv 32 (.bool true) rfl rfl (by intro x hx; go_simp; (first | done | exact rfl)) ?_
  simp only [sA, sB]
  refine tm 33 69 rfl rfl rfl rfl ?_
  simp only [sA, sB]
  refine tv 34 (.bool ((scalar_Branch 160#64 true scalar_All (Sc.mk (P.mk 16#64 0#64) (P.mk 16#64 16#64) (P.mk 16#64 16#64)) true).2.2)) rfl rfl (by intro x hx; go_simp; (first | done | exact rfl)) ?_
  simp only [sA, sB]
  refine tv 35 (.bool ((scalar_Branch 160#64 true scalar_All (Sc.mk (P.mk 16#64 0#64) (P.mk 16#64 16#64) (P.mk 16#64 16#64)) true).2.2)) rfl rfl (by intro x hx; go_simp; (first | done | exact rfl)) ?_
  simp only [sA, sB]
  refine tm 36 72 rfl rfl rfl rfl ?_
  simp only [sA, sB]
  rw [show ((scalar_Branch 160#64 true scalar_All (Sc.mk (P.mk 16#64 0#64) (P.mk 16#64 16#64) (P.mk 16#64 16#64)) true).2.2) = true from (show ((scalar_Branch 160#64 true scalar_All (Sc.mk (P.mk 16#64 0#64) (P.mk 16#64 16#64) (P.mk 16#64 16#64)) true).2.2) = true by decide +kernel)]
  refine tv 37 (vS ((scalar_Branch 80#64 true ((scalar_Norm (Sc.mk scalar_All.t (P.mk 0#64 1#64) scalar_All.s)).1) (Sc.mk (P.mk 0#64 0#64) (P.mk 0#64 0#64) (P.mk 0#64 0#64)) true).1)) rfl rfl (by intro x hx; obtain ⟨f0, f1, f2, f3, f4, f5⟩ := hx.six 4 0 rfl rfl; go_simp; (first | done | exact rfl)) ?_
  simp only [sA, sB, vS]
  refine tc 38 26 #[.int .u64 (tn (1#64))] (vS (Sc.mk (P.mk 1#64 0#64) (P.mk 1#64 1#64) (P.mk 1#64 1#64))) rfl rfl (by intro x hx; exact scalar_Of_any 1#64 _) ?_
  simp only [sA, sB, vS]
  refine tv 39 (.bool true) rfl rfl (by intro x hx; go_simp; (first | done | exact (eqScT (fun b => Result.ok (Next.value (Value.bool b)) x) ((((scalar_Branch 80#64 true ((scalar_Norm (Sc.mk scalar_All.t (P.mk 0#64 1#64) scalar_All.s)).1) (Sc.mk (P.mk 0#64 0#64) (P.mk 0#64 0#64) (P.mk 0#64 0#64)) true).1).t).lo) ((((scalar_Branch 80#64 true ((scalar_Norm (Sc.mk scalar_All.t (P.mk 0#64 1#64) scalar_All.s)).1) (Sc.mk (P.mk 0#64 0#64) (P.mk 0#64 0#64) (P.mk 0#64 0#64)) true).1).t).hi) ((((scalar_Branch 80#64 true ((scalar_Norm (Sc.mk scalar_All.t (P.mk 0#64 1#64) scalar_All.s)).1) (Sc.mk (P.mk 0#64 0#64) (P.mk 0#64 0#64) (P.mk 0#64 0#64)) true).1).u).lo) ((((scalar_Branch 80#64 true ((scalar_Norm (Sc.mk scalar_All.t (P.mk 0#64 1#64) scalar_All.s)).1) (Sc.mk (P.mk 0#64 0#64) (P.mk 0#64 0#64) (P.mk 0#64 0#64)) true).1).u).hi) ((((scalar_Branch 80#64 true ((scalar_Norm (Sc.mk scalar_All.t (P.mk 0#64 1#64) scalar_All.s)).1) (Sc.mk (P.mk 0#64 0#64) (P.mk 0#64 0#64) (P.mk 0#64 0#64)) true).1).s).lo) ((((scalar_Branch 80#64 true ((scalar_Norm (Sc.mk scalar_All.t (P.mk 0#64 1#64) scalar_All.s)).1) (Sc.mk (P.mk 0#64 0#64) (P.mk 0#64 0#64) (P.mk 0#64 0#64)) true).1).s).hi) 1#64 0#64 1#64 1#64 1#64 1#64).trans (congrArg (fun b => Result.ok (Next.value (Value.bool b)) x) ((show (eqSc ((scalar_Branch 80#64 true ((scalar_Norm (Sc.mk scalar_All.t (P.mk 0#64 1#64) scalar_All.s)).1) (Sc.mk (P.mk 0#64 0#64) (P.mk 0#64 0#64) (P.mk 0#64 0#64)) true).1) (Sc.mk (P.mk 1#64 0#64) (P.mk 1#64 1#64) (P.mk 1#64 1#64))) = true by decide +kernel))))) ?_
  simp only [sA, sB]
  refine tv 40 (.bool true) rfl rfl (by intro x hx; go_simp; (first | done | exact rfl)) ?_
  simp only [sA, sB]
  refine tm 41 77 rfl rfl rfl rfl ?_
  simp only [sA, sB]
  refine tv 42 (.bool ((scalar_Branch 80#64 true ((scalar_Norm (Sc.mk scalar_All.t (P.mk 0#64 1#64) scalar_All.s)).1) (Sc.mk (P.mk 0#64 0#64) (P.mk 0#64 0#64) (P.mk 0#64 0#64)) true).2.2)) rfl rfl (by intro x hx; go_simp; (first | done | exact rfl)) ?_
  simp only [sA, sB]
  refine tv 43 (.bool ((scalar_Branch 80#64 true ((scalar_Norm (Sc.mk scalar_All.t (P.mk 0#64 1#64) scalar_All.s)).1) (Sc.mk (P.mk 0#64 0#64) (P.mk 0#64 0#64) (P.mk 0#64 0#64)) true).2.2)) rfl rfl (by intro x hx; go_simp; (first | done | exact rfl)) ?_
  simp only [sA, sB]
  refine tm 44 80 rfl rfl rfl rfl ?_
  simp only [sA, sB]
  rw [show ((scalar_Branch 80#64 true ((scalar_Norm (Sc.mk scalar_All.t (P.mk 0#64 1#64) scalar_All.s)).1) (Sc.mk (P.mk 0#64 0#64) (P.mk 0#64 0#64) (P.mk 0#64 0#64)) true).2.2) = true from (show ((scalar_Branch 80#64 true ((scalar_Norm (Sc.mk scalar_All.t (P.mk 0#64 1#64) scalar_All.s)).1) (Sc.mk (P.mk 0#64 0#64) (P.mk 0#64 0#64) (P.mk 0#64 0#64)) true).2.2) = true by decide +kernel)]
  refine tv 45 (.bool ((scalar_Branch 32#64 true ((scalar_Norm (Sc.mk scalar_All.t (P.mk 0#64 3#64) scalar_All.s)).1) (Sc.mk (P.mk 5#64 0#64) (P.mk 5#64 5#64) (P.mk 5#64 5#64)) true).2.2)) rfl rfl (by intro x hx; go_simp; (first | done | exact rfl)) ?_
  simp only [sA, sB]
  refine tv 46 (.bool true) rfl rfl (by intro x hx; go_simp; (first | done | (first | exact (show (!((scalar_Branch 32#64 true ((scalar_Norm (Sc.mk scalar_All.t (P.mk 0#64 3#64) scalar_All.s)).1) (Sc.mk (P.mk 5#64 0#64) (P.mk 5#64 5#64) (P.mk 5#64 5#64)) true).2.2)) = true by decide +kernel) | exact eq_of_beq ((show (!((scalar_Branch 32#64 true ((scalar_Norm (Sc.mk scalar_All.t (P.mk 0#64 3#64) scalar_All.s)).1) (Sc.mk (P.mk 5#64 0#64) (P.mk 5#64 5#64) (P.mk 5#64 5#64)) true).2.2)) = true by decide +kernel)) | exact congrArg _ ((show (!((scalar_Branch 32#64 true ((scalar_Norm (Sc.mk scalar_All.t (P.mk 0#64 3#64) scalar_All.s)).1) (Sc.mk (P.mk 5#64 0#64) (P.mk 5#64 5#64) (P.mk 5#64 5#64)) true).2.2)) = true by decide +kernel)) | (rw [(show (!((scalar_Branch 32#64 true ((scalar_Norm (Sc.mk scalar_All.t (P.mk 0#64 3#64) scalar_All.s)).1) (Sc.mk (P.mk 5#64 0#64) (P.mk 5#64 5#64) (P.mk 5#64 5#64)) true).2.2)) = true by decide +kernel)]; done) | ((first | rfl | skip); rw [(show (!((scalar_Branch 32#64 true ((scalar_Norm (Sc.mk scalar_All.t (P.mk 0#64 3#64) scalar_All.s)).1) (Sc.mk (P.mk 5#64 0#64) (P.mk 5#64 5#64) (P.mk 5#64 5#64)) true).2.2)) = true by decide +kernel)]) | exact congrArg tn (eq_of_beq ((show (!((scalar_Branch 32#64 true ((scalar_Norm (Sc.mk scalar_All.t (P.mk 0#64 3#64) scalar_All.s)).1) (Sc.mk (P.mk 5#64 0#64) (P.mk 5#64 5#64) (P.mk 5#64 5#64)) true).2.2)) = true by decide +kernel))) | exact congrArg ti (eq_of_beq ((show (!((scalar_Branch 32#64 true ((scalar_Norm (Sc.mk scalar_All.t (P.mk 0#64 3#64) scalar_All.s)).1) (Sc.mk (P.mk 5#64 0#64) (P.mk 5#64 5#64) (P.mk 5#64 5#64)) true).2.2)) = true by decide +kernel))) | exact congrArg tn (eq_of_bne ((show (!((scalar_Branch 32#64 true ((scalar_Norm (Sc.mk scalar_All.t (P.mk 0#64 3#64) scalar_All.s)).1) (Sc.mk (P.mk 5#64 0#64) (P.mk 5#64 5#64) (P.mk 5#64 5#64)) true).2.2)) = true by decide +kernel))) | simpa using ((show (!((scalar_Branch 32#64 true ((scalar_Norm (Sc.mk scalar_All.t (P.mk 0#64 3#64) scalar_All.s)).1) (Sc.mk (P.mk 5#64 0#64) (P.mk 5#64 5#64) (P.mk 5#64 5#64)) true).2.2)) = true by decide +kernel))))) ?_
  simp only [sA, sB]
  refine tv 47 (.bool true) rfl rfl (by intro x hx; go_simp; (first | done | exact rfl)) ?_
  simp only [sA, sB]
  refine ta 48 84 rfl rfl rfl rfl ?_
  simp only [sB]
  clear HS
  refine td fun W6 HS => ?_
  go_wp2
  exact bodyPost_ret (v := .bool true) (by simp [results, Tryz.results8, go_sem]) rfl ⟨rfl, HS.out.below⟩
end Go.Proofs.YtdjgjeffdjjbiaaGreatDoor.Sp
