/-
  The walk of the law ScalarSound.
-/
import Derived.Deep.DeepCutAuto
import Derived.Test.YtdjgjeffdjjbiaaGreatDoorScJ
import Derived.Test.YtdjgjeffdjjbiaaGreatDoorScR
namespace Go.Proofs.YtdjgjeffdjjbiaaGreatDoor.Sp
open Go.RowKit Go.Proofs.YtdjgjeffdjjbiaaGreatDoor.Num Go.Proofs.YtdjgjeffdjjbiaaGreatDoor.Up
set_option maxRecDepth 100000 in
set_option maxHeartbeats 8000000 in
theorem scalarSound (x0 : Pr) (x1 : BitVec 64) (x2 : Bool)   (w : World) (hT : Tn.Tab w) :
    Calls Tryz.prog 4 #[.agg #[.int .u64 (tn (x0.V)), .int .u64 (tn (x0.W)), .int .u64 (tn (x0.Mask)), .int .u64 (tn (x0.Other)), .int .u64 (tn (x0.Down)), .int .u64 (tn (x0.Up)), .int .u64 (tn (x0.Less)), .int .u64 (tn (x0.More))], .int .i64 (ti (x1)), .bool (x2)] w fun e w' => e = .returned (.bool true) ∧ Below w.heap.size w w' := by
  have HT := hid hT
  clear hT
  have HA := hid (around_in x0.V x0.Mask x0.Down x0.Up)
  have HB := hid (around_in x0.W x0.Other x0.Less x0.More)
  go_enter Tryz.func4, Tryz.ntmps4
  have HS : Hid (St w [⟨w.heap.size, [some (.int .u64 (tn (x0.V))), some (.int .u64 (tn (x0.W))), some (.int .u64 (tn (x0.Mask))), some (.int .u64 (tn (x0.Other))), some (.int .u64 (tn (x0.Down))), some (.int .u64 (tn (x0.Up))), some (.int .u64 (tn (x0.Less))), some (.int .u64 (tn (x0.More)))], 43⟩] _) := hid ((st_nil w).alloc (k := w.heap.size) rfl [.int .u64 (tn (x0.V)), .int .u64 (tn (x0.W)), .int .u64 (tn (x0.Mask)), .int .u64 (tn (x0.Other)), .int .u64 (tn (x0.Down)), .int .u64 (tn (x0.Up)), .int .u64 (tn (x0.Less)), .int .u64 (tn (x0.More))] 43)
  go_upto_region 1 with fail
  refine lnb HS.out rfl ?_
  refine lv 0 (.agg #[.int .u64 (tn (x0.V)), .int .u64 (tn (x0.W)), .int .u64 (tn (x0.Mask)), .int .u64 (tn (x0.Other)), .int .u64 (tn (x0.Down)), .int .u64 (tn (x0.Up)), .int .u64 (tn (x0.Less)), .int .u64 (tn (x0.More))]) rfl rfl (by intro x hx; have f0 := hx.load 0 0 rfl rfl; have f1 := hx.load 0 1 rfl rfl; have f2 := hx.load 0 2 rfl rfl; have f3 := hx.load 0 3 rfl rfl; have f4 := hx.load 0 4 rfl rfl; have f5 := hx.load 0 5 rfl rfl; have f6 := hx.load 0 6 rfl rfl; have f7 := hx.load 0 7 rfl rfl; go_simp; (first | done | exact rfl)) ?_
  simp only [sA, sB]
  refine lc 1 21 #[.agg #[.int .u64 (tn (x0.V)), .int .u64 (tn (x0.W)), .int .u64 (tn (x0.Mask)), .int .u64 (tn (x0.Other)), .int .u64 (tn (x0.Down)), .int .u64 (tn (x0.Up)), .int .u64 (tn (x0.Less)), .int .u64 (tn (x0.More))]] (.tuple #[vS (law_around x0.V x0.Mask x0.Down x0.Up), vS (law_around x0.W x0.Other x0.Less x0.More)]) rfl rfl (by intro x hx; exact law_scalars_any x0 _) ?_
  simp only [sA, sB, vS]
  refine lm 2 20 rfl rfl rfl rfl ?_
  simp only [sA, sB]
  refine lv 3 (vS (law_around x0.V x0.Mask x0.Down x0.Up)) rfl rfl (by intro x hx; go_simp; (first | done | exact rfl)) ?_
  simp only [sA, sB, vS]
  refine lv 4 (vS (law_around x0.W x0.Other x0.Less x0.More)) rfl rfl (by intro x hx; go_simp; (first | done | exact rfl)) ?_
  simp only [sA, sB, vS]
  refine lin_new (i := 5) rfl rfl (by rfl) [.int .u64 0, .int .u64 0, .int .u64 0, .int .u64 0, .int .i64 0, .int .i64 0] 30 (fun k => .pointer (some ⟨k, 0, none⟩)) [some (.int .u64 0), some (.int .u64 0), some (.int .u64 0), some (.int .u64 0), some (.int .i64 0), some (.int .i64 0)] (lessC_refl _) (by intro x hx; go_simp; (first | done | exact rfl)) (fun k1 => ?_)
  simp only [sA, sB, sC, sD]
  refine lin_new (i := 6) rfl rfl (by rfl) [.int .u64 0, .int .u64 0, .int .u64 0, .int .u64 0, .int .i64 0, .int .i64 0] 30 (fun k => .pointer (some ⟨k, 0, none⟩)) [some (.int .u64 0), some (.int .u64 0), some (.int .u64 0), some (.int .u64 0), some (.int .i64 0), some (.int .i64 0)] (lessC_refl _) (by intro x hx; go_simp; (first | done | exact rfl)) (fun k2 => ?_)
  simp only [sA, sB, sC, sD]
  refine ls 7 1 0 (cS (law_around x0.V x0.Mask x0.Down x0.Up)) rfl rfl rfl (by intro x hx; obtain ⟨⟨_, z0, q0⟩, ⟨_, z1, q1⟩, ⟨_, z2, q2⟩, ⟨_, z3, q3⟩, ⟨_, z4, q4⟩, ⟨_, z5, q5⟩⟩ := hx.at6 1 0 rfl; go_simp; (first | done | rfl)) ?_
  simp only [Blk.putC, setM, cS, sA, sB]
  refine ls 8 2 0 (cS (law_around x0.W x0.Other x0.Less x0.More)) rfl rfl rfl (by intro x hx; obtain ⟨⟨_, z0, q0⟩, ⟨_, z1, q1⟩, ⟨_, z2, q2⟩, ⟨_, z3, q3⟩, ⟨_, z4, q4⟩, ⟨_, z5, q5⟩⟩ := hx.at6 2 0 rfl; go_simp; (first | done | rfl)) ?_
  simp only [Blk.putC, setM, cS, sA, sB]
  clear HS
  refine ld fun W1 HS => ?_
  go_upto_region 2 with fail
  refine lnb HS.out rfl ?_
  refine lv 0 (vS (law_around x0.V x0.Mask x0.Down x0.Up)) rfl rfl (by intro x hx; obtain ⟨f0, f1, f2, f3, f4, f5⟩ := hx.six 1 0 rfl rfl; go_simp; (first | done | exact rfl)) ?_
  simp only [sA, sB, vS]
  refine lv 1 (.pointer (some ⟨w.heap.size, 0, none⟩)) rfl rfl (by intro x hx; go_simp; (first | done | exact rfl)) ?_
  simp only [sA, sB]
  refine lv 2 (.int .u64 (tn (x0.V))) rfl rfl (by intro x hx; have f0 := hx.load 0 0 rfl rfl; go_simp; (first | done | exact rfl)) ?_
  simp only [sA, sB]
  refine lc 3 13 #[vS (law_around x0.V x0.Mask x0.Down x0.Up), .int .u64 (tn (x0.V))] (.bool true) rfl rfl (by intro x hx; exact calls_is (scalar_In_any (law_around x0.V x0.Mask x0.Down x0.Up) x0.V _) (congrArg Value.bool (HA.out.2))) ?_
  simp only [sA, sB]
  refine lv 4 (.bool false) rfl rfl (by intro x hx; go_simp; (first | done | exact rfl)) ?_
  simp only [sA, sB]
  refine lm 5 27 rfl rfl rfl rfl ?_
  simp only [sA, sB]
  refine lv 6 (vS (law_around x0.W x0.Other x0.Less x0.More)) rfl rfl (by intro x hx; obtain ⟨f0, f1, f2, f3, f4, f5⟩ := hx.six 2 0 rfl rfl; go_simp; (first | done | exact rfl)) ?_
  simp only [sA, sB, vS]
  refine lv 7 (.pointer (some ⟨w.heap.size, 1, none⟩)) rfl rfl (by intro x hx; go_simp; (first | done | exact rfl)) ?_
  simp only [sA, sB]
  refine lv 8 (.int .u64 (tn (x0.W))) rfl rfl (by intro x hx; have f0 := hx.load 0 1 rfl rfl; go_simp; (first | done | exact rfl)) ?_
  simp only [sA, sB]
  refine lc 9 13 #[vS (law_around x0.W x0.Other x0.Less x0.More), .int .u64 (tn (x0.W))] (.bool true) rfl rfl (by intro x hx; exact calls_is (scalar_In_any (law_around x0.W x0.Other x0.Less x0.More) x0.W _) (congrArg Value.bool (HB.out.2))) ?_
  simp only [sA, sB]
  refine lv 10 (.bool false) rfl rfl (by intro x hx; go_simp; (first | done | exact rfl)) ?_
  simp only [sA, sB]
  refine lv 11 (.bool false) rfl rfl (by intro x hx; go_simp; (first | done | exact rfl)) ?_
  simp only [sA, sB]
  clear HS
  refine ld fun W2 HS => ?_
  go_upto_region 4 with fail
  refine lnb HS.out rfl ?_
  refine lm 0 1 rfl rfl rfl rfl ?_
  simp only [sA, sB]
  refine lc 1 22 #[.int .i64 (ti (x1)), .int .i64 16] (.int .i64 (ti (pick16 x1))) rfl rfl (by intro x hx; exact pick16_any x1 _) ?_
  simp only [sA, sB]
  refine lv 2 (.int .i64 (ti (16#64 * (pick16 x1)))) rfl rfl (by intro x hx; exact (show _ = Result.ok (Next.value (.int .i64 (IntKind.i64.wrap ((16 : Int) * (ti (pick16 x1)))))) x by kernel_rfl).trans (by rw [show (16 : Int) = ti 16#64 from by decide, mulIT 16#64 (pick16 x1)])) ?_
  simp only [sA, sB]
  refine la 3 37 rfl rfl rfl rfl ?_
  simp only [sA, sB]
  clear HS
  refine ld fun W3 HS => ?_
  go_upto_region 5 with fail
  refine lnb HS.out rfl ?_
  refine lm 0 1 rfl rfl rfl rfl ?_
  simp only [sA, sB]
  refine lm 1 2 rfl rfl rfl rfl ?_
  simp only [sA, sB]
  refine lv 2 (.pointer (some ⟨w.heap.size, 0, none⟩)) rfl rfl (by intro x hx; go_simp; (first | done | exact rfl)) ?_
  simp only [sA, sB]
  refine lv 3 (.int .u64 (tn (x0.V))) rfl rfl (by intro x hx; have f0 := hx.load 0 0 rfl rfl; go_simp; (first | done | exact rfl)) ?_
  simp only [sA, sB]
  refine lv 4 (.pointer (some ⟨w.heap.size, 1, none⟩)) rfl rfl (by intro x hx; go_simp; (first | done | exact rfl)) ?_
  simp only [sA, sB]
  refine lv 5 (.int .u64 (tn (x0.W))) rfl rfl (by intro x hx; have f0 := hx.load 0 1 rfl rfl; go_simp; (first | done | exact rfl)) ?_
  simp only [sA, sB]
  refine lc 6 23 #[.int .i64 (ti (16#64 * (pick16 x1))), .bool (x2), .int .u64 (tn (x0.V)), .int .u64 (tn (x0.W))] (.tuple #[.int .u64 (tn (aluR (16#64 * (pick16 x1)) x2 x0.V x0.W)), .bool (aluIs (ti (16#64 * (pick16 x1))))]) rfl rfl (by intro x hx; exact wAlu_any (16#64 * (pick16 x1)) x2 x0.V x0.W _) ?_
  simp only [sA, sB]
  refine lm 7 45 rfl rfl rfl rfl ?_
  simp only [sA, sB]
  refine lv 8 (.int .u64 (tn (aluR (16#64 * (pick16 x1)) x2 x0.V x0.W))) rfl rfl (by intro x hx; go_simp; (first | done | exact rfl)) ?_
  simp only [sA, sB]
  refine lv 9 (.bool (aluIs (ti (16#64 * (pick16 x1))))) rfl rfl (by intro x hx; go_simp; (first | done | exact rfl)) ?_
  simp only [sA, sB]
  refine la 10 46 rfl rfl rfl rfl ?_
  simp only [sA, sB]
  refine la 11 47 rfl rfl rfl rfl ?_
  simp only [sA, sB]
  clear HS
  refine ld fun W4 HS => ?_
  go_upto_region 6 with fail
  refine lnb HS.out rfl ?_
  refine lm 0 1 rfl rfl rfl rfl ?_
  simp only [sA, sB]
  refine lm 1 2 rfl rfl rfl rfl ?_
  simp only [sA, sB]
  refine lv 2 (vS (law_around x0.V x0.Mask x0.Down x0.Up)) rfl rfl (by intro x hx; obtain ⟨f0, f1, f2, f3, f4, f5⟩ := hx.six 1 0 rfl rfl; go_simp; (first | done | exact rfl)) ?_
  simp only [sA, sB, vS]
  refine lv 3 (vS (law_around x0.W x0.Other x0.Less x0.More)) rfl rfl (by intro x hx; obtain ⟨f0, f1, f2, f3, f4, f5⟩ := hx.six 2 0 rfl rfl; go_simp; (first | done | exact rfl)) ?_
  simp only [sA, sB, vS]
  refine lc 4 19 #[.int .i64 (ti (16#64 * (pick16 x1))), .bool (x2), vS (law_around x0.V x0.Mask x0.Down x0.Up), vS (law_around x0.W x0.Other x0.Less x0.More)] (vS (scalar_Alu (16#64 * (pick16 x1)) x2 (law_around x0.V x0.Mask x0.Down x0.Up) (law_around x0.W x0.Other x0.Less x0.More))) rfl rfl (by intro x hx; exact scalar_Alu_any (16#64 * (pick16 x1)) x2 (law_around x0.V x0.Mask x0.Down x0.Up) (law_around x0.W x0.Other x0.Less x0.More) _ (HT.out.up hx.below)) ?_
  simp only [sA, sB, vS]
  refine lin_new (i := 5) rfl rfl (by rfl) [.int .u64 0, .int .u64 0, .int .u64 0, .int .u64 0, .int .i64 0, .int .i64 0] 30 (fun k => .pointer (some ⟨k, 0, none⟩)) [some (.int .u64 0), some (.int .u64 0), some (.int .u64 0), some (.int .u64 0), some (.int .i64 0), some (.int .i64 0)] (lessC_refl _) (by intro x hx; go_simp; (first | done | exact rfl)) (fun k3 => ?_)
  simp only [sA, sB, sC, sD]
  refine ls 6 3 0 (cS (scalar_Alu (16#64 * (pick16 x1)) x2 (law_around x0.V x0.Mask x0.Down x0.Up) (law_around x0.W x0.Other x0.Less x0.More))) rfl rfl rfl (by intro x hx; obtain ⟨⟨_, z0, q0⟩, ⟨_, z1, q1⟩, ⟨_, z2, q2⟩, ⟨_, z3, q3⟩, ⟨_, z4, q4⟩, ⟨_, z5, q5⟩⟩ := hx.at6 3 0 rfl; go_simp; (first | done | rfl)) ?_
  simp only [Blk.putC, setM, cS, sA, sB]
  clear HS
  refine ld fun W5 HS => ?_
  go_upto_region 7 with fail
  refine lnb HS.out rfl ?_
  refine lm 0 10 rfl rfl rfl rfl ?_
  simp only [sA, sB]
  refine lm 1 53 rfl rfl rfl rfl ?_
  simp only [sA, sB]
  refine lin_if (i := 2) (v := vS (scalar_Alu (16#64 * (pick16 x1)) x2 (law_around x0.V x0.Mask x0.Down x0.Up) (law_around x0.W x0.Other x0.Less x0.More))) (aluIs (ti (16#64 * (pick16 x1)))) rfl rfl (by generalize (aluIs (ti (16#64 * (pick16 x1)))) = gg0; cases gg0 <;> rfl) (by intro hb; have hb21 := hid (show (aluIs (ti (16#64 * (pick16 x1)))) = true from hb); intro x hx; (try simp only [hb]); (try simp only [cond_true]); obtain ⟨f0, f1, f2, f3, f4, f5⟩ := hx.six 3 0 rfl rfl; go_simp; (first | done | exact rfl)) ?_
  simp only [sA, sB, vS]
  refine lin_if (i := 3) (v := .int .u64 (tn (aluR (16#64 * (pick16 x1)) x2 x0.V x0.W))) (aluIs (ti (16#64 * (pick16 x1)))) rfl rfl (by generalize (aluIs (ti (16#64 * (pick16 x1)))) = gg0; cases gg0 <;> rfl) (by intro hb; have hb22 := hid (show (aluIs (ti (16#64 * (pick16 x1)))) = true from hb); intro x hx; (try simp only [hb]); (try simp only [cond_true]); go_simp; (first | done | exact rfl)) ?_
  simp only [sA, sB]
  refine lin_if_call (i := 4) (f := 13) (args := #[vS (scalar_Alu (16#64 * (pick16 x1)) x2 (law_around x0.V x0.Mask x0.Down x0.Up) (law_around x0.W x0.Other x0.Less x0.More)), .int .u64 (tn (aluR (16#64 * (pick16 x1)) x2 x0.V x0.W))]) (v := .bool true) (aluIs (ti (16#64 * (pick16 x1)))) (st_ups _ _) rfl rfl (by generalize (aluIs (ti (16#64 * (pick16 x1)))) = gg0; cases gg0 <;> rfl) (by intro hb; have hb23 := hid (show (aluIs (ti (16#64 * (pick16 x1)))) = true from hb); intro x hx; (try simp only [hb]); (try simp only [cond_true]); kernel_rfl) (by intro hb; have hb23 := hid (show (aluIs (ti (16#64 * (pick16 x1)))) = true from hb); intro x hx; exact calls_is (scalar_In_any (scalar_Alu (16#64 * (pick16 x1)) x2 (law_around x0.V x0.Mask x0.Down x0.Up) (law_around x0.W x0.Other x0.Less x0.More)) (aluR (16#64 * (pick16 x1)) x2 x0.V x0.W) _) (congrArg Value.bool (alu_in _ _ hb23.out HB.out.1 HA.out.2 HB.out.2))) ?_
  simp only [sA, sB]
  refine lin_if (i := 5) (v := .bool false) (aluIs (ti (16#64 * (pick16 x1)))) rfl rfl (by generalize (aluIs (ti (16#64 * (pick16 x1)))) = gg0; cases gg0 <;> rfl) (by intro hb; have hb24 := hid (show (aluIs (ti (16#64 * (pick16 x1)))) = true from hb); intro x hx; (try simp only [hb]); (try simp only [cond_true]); go_simp; (first | done | exact rfl)) ?_
  simp only [sA, sB]
  refine lv 6 (.bool false) rfl rfl (by intro x hx; (cases hq : (aluIs (ti (16#64 * (pick16 x1)))) <;> first | rfl | (simp only [hq]; rfl) | simp [hq])) ?_
  simp only [sA, sB]
  refine lm 7 59 rfl rfl rfl rfl ?_
  simp only [sA, sB]
  refine lv 8 (.bool (aluIs (ti (16#64 * (pick16 x1))))) rfl rfl (by intro x hx; go_simp; (first | done | exact rfl)) ?_
  simp only [sA, sB]
  refine lv 9 (.bool ((!(aluIs (ti (16#64 * (pick16 x1))))))) rfl rfl (by intro x hx; go_simp; (first | done | exact rfl)) ?_
  simp only [sA, sB]
  refine lv 10 (.bool ((!(aluIs (ti (16#64 * (pick16 x1))))))) rfl rfl (by intro x hx; go_simp; (first | done | exact rfl)) ?_
  simp only [sA, sB]
  refine lin_if (i := 11) (v := .bool (x2)) (!(aluIs (ti (16#64 * (pick16 x1))))) rfl rfl (by generalize (!(aluIs (ti (16#64 * (pick16 x1))))) = gg0; cases gg0 <;> rfl) (by intro hb; have hb25 := hid (show ((!(aluIs (ti (16#64 * (pick16 x1)))))) = true from hb); intro x hx; (try simp only [hb]); (try simp only [cond_true]); go_simp; (first | done | exact rfl)) ?_
  simp only [sA, sB]
  refine lv 12 (.bool ((bif (!(aluIs (ti (16#64 * (pick16 x1))))) then x2 else false))) rfl rfl (by intro x hx; (cases hq : ((!(aluIs (ti (16#64 * (pick16 x1)))))) <;> first | rfl | (simp only [hq]; rfl) | simp [hq])) ?_
  simp only [sA, sB]
  refine lv 13 (.bool ((bif (!(aluIs (ti (16#64 * (pick16 x1))))) then x2 else false))) rfl rfl (by intro x hx; go_simp; (first | done | exact rfl)) ?_
  simp only [sA, sB]
  refine lin_if (i := 14) (v := vS (scalar_Alu (16#64 * (pick16 x1)) x2 (law_around x0.V x0.Mask x0.Down x0.Up) (law_around x0.W x0.Other x0.Less x0.More))) (bif (!(aluIs (ti (16#64 * (pick16 x1))))) then x2 else false) rfl rfl (by generalize (bif (!(aluIs (ti (16#64 * (pick16 x1))))) then x2 else false) = gg0; cases gg0 <;> rfl) (by intro hb; have hb26 := hid (show ((bif (!(aluIs (ti (16#64 * (pick16 x1))))) then x2 else false)) = true from hb); intro x hx; (try simp only [hb]); (try simp only [cond_true]); obtain ⟨f0, f1, f2, f3, f4, f5⟩ := hx.six 3 0 rfl rfl; go_simp; (first | done | exact rfl)) ?_
  simp only [sA, sB, vS]
  refine lin_if (i := 15) (v := .pointer (some ⟨w.heap.size, 0, none⟩)) (bif (!(aluIs (ti (16#64 * (pick16 x1))))) then x2 else false) rfl rfl (by generalize (bif (!(aluIs (ti (16#64 * (pick16 x1))))) then x2 else false) = gg0; cases gg0 <;> rfl) (by intro hb; have hb27 := hid (show ((bif (!(aluIs (ti (16#64 * (pick16 x1))))) then x2 else false)) = true from hb); intro x hx; (try simp only [hb]); (try simp only [cond_true]); go_simp; (first | done | exact rfl)) ?_
  simp only [sA, sB]
  refine lin_if (i := 16) (v := .int .u64 (tn (x0.V))) (bif (!(aluIs (ti (16#64 * (pick16 x1))))) then x2 else false) rfl rfl (by generalize (bif (!(aluIs (ti (16#64 * (pick16 x1))))) then x2 else false) = gg0; cases gg0 <;> rfl) (by intro hb; have hb28 := hid (show ((bif (!(aluIs (ti (16#64 * (pick16 x1))))) then x2 else false)) = true from hb); intro x hx; (try simp only [hb]); (try simp only [cond_true]); have f0 := hx.load 0 0 rfl rfl; go_simp; (first | done | exact rfl)) ?_
  simp only [sA, sB]
  refine lin_if_call (i := 17) (f := 13) (args := #[vS (scalar_Alu (16#64 * (pick16 x1)) x2 (law_around x0.V x0.Mask x0.Down x0.Up) (law_around x0.W x0.Other x0.Less x0.More)), .int .u64 (tn (x0.V))]) (v := .bool true) (bif (!(aluIs (ti (16#64 * (pick16 x1))))) then x2 else false) (st_ups _ _) rfl rfl (by generalize (bif (!(aluIs (ti (16#64 * (pick16 x1))))) then x2 else false) = gg0; cases gg0 <;> rfl) (by intro hb; have hb29 := hid (show ((bif (!(aluIs (ti (16#64 * (pick16 x1))))) then x2 else false)) = true from hb); intro x hx; (try simp only [hb]); (try simp only [cond_true]); kernel_rfl) (by intro hb; have hb29 := hid (show ((bif (!(aluIs (ti (16#64 * (pick16 x1))))) then x2 else false)) = true from hb); intro x hx; exact calls_is (scalar_In_any (scalar_Alu (16#64 * (pick16 x1)) x2 (law_around x0.V x0.Mask x0.Down x0.Up) (law_around x0.W x0.Other x0.Less x0.More)) x0.V _) (congrArg Value.bool (alu_no2 _ hb29.out))) ?_
  simp only [sA, sB]
  refine lin_if (i := 18) (v := .bool false) (bif (!(aluIs (ti (16#64 * (pick16 x1))))) then x2 else false) rfl rfl (by generalize (bif (!(aluIs (ti (16#64 * (pick16 x1))))) then x2 else false) = gg0; cases gg0 <;> rfl) (by intro hb; have hb30 := hid (show ((bif (!(aluIs (ti (16#64 * (pick16 x1))))) then x2 else false)) = true from hb); intro x hx; (try simp only [hb]); (try simp only [cond_true]); go_simp; (first | done | exact rfl)) ?_
  simp only [sA, sB]
  refine lv 19 (.bool false) rfl rfl (by intro x hx; (cases hq : ((bif (!(aluIs (ti (16#64 * (pick16 x1))))) then x2 else false)) <;> first | rfl | (simp only [hq]; rfl) | simp [hq])) ?_
  simp only [sA, sB]
  refine lv 20 (.bool false) rfl rfl (by intro x hx; go_simp; (first | done | exact rfl)) ?_
  simp only [sA, sB]
  clear HS
  refine ld fun W6 HS => ?_
  go_upto_region 9 with fail
  refine lnb HS.out rfl ?_
  refine lm 0 1 rfl rfl rfl rfl ?_
  simp only [sA, sB]
  refine lm 1 2 rfl rfl rfl rfl ?_
  simp only [sA, sB]
  refine lv 2 (.pointer (some ⟨w.heap.size, 0, none⟩)) rfl rfl (by intro x hx; go_simp; (first | done | exact rfl)) ?_
  simp only [sA, sB]
  refine lv 3 (.int .u64 (tn (x0.V))) rfl rfl (by intro x hx; have f0 := hx.load 0 0 rfl rfl; go_simp; (first | done | exact rfl)) ?_
  simp only [sA, sB]
  refine lv 4 (.pointer (some ⟨w.heap.size, 1, none⟩)) rfl rfl (by intro x hx; go_simp; (first | done | exact rfl)) ?_
  simp only [sA, sB]
  refine lv 5 (.int .u64 (tn (x0.W))) rfl rfl (by intro x hx; have f0 := hx.load 0 1 rfl rfl; go_simp; (first | done | exact rfl)) ?_
  simp only [sA, sB]
  refine lc 6 24 #[.int .i64 (ti (16#64 * (pick16 x1))), .bool (x2), .int .u64 (tn (x0.V)), .int .u64 (tn (x0.W))] (.tuple #[.bool (jmpR (16#64 * (pick16 x1)) x2 x0.V x0.W), .bool (jmpIs (ti (16#64 * (pick16 x1))))]) rfl rfl (by intro x hx; exact wJump_any (16#64 * (pick16 x1)) x2 x0.V x0.W _) ?_
  simp only [sA, sB]
  refine lm 7 81 rfl rfl rfl rfl ?_
  simp only [sA, sB]
  refine lv 8 (.bool (jmpR (16#64 * (pick16 x1)) x2 x0.V x0.W)) rfl rfl (by intro x hx; go_simp; (first | done | exact rfl)) ?_
  simp only [sA, sB]
  refine lv 9 (.bool (jmpIs (ti (16#64 * (pick16 x1))))) rfl rfl (by intro x hx; go_simp; (first | done | exact rfl)) ?_
  simp only [sA, sB]
  refine la 10 82 rfl rfl rfl rfl ?_
  simp only [sA, sB]
  refine la 11 83 rfl rfl rfl rfl ?_
  simp only [sA, sB]
  clear HS
  refine ld fun W7 HS => ?_
  go_upto_region 10 with fail
  refine lnb HS.out rfl ?_
  refine lv 0 (.int .i64 0) rfl rfl (by intro x hx; go_simp; (first | done | exact rfl)) ?_
  simp only [sA, sB]
  clear HS
  refine ld fun W8 HS => ?_
  go_wp2
  refine wp_loop_rounds 70 ?_
  rw [rounds_succ]
  go_upto_region 11 with fail
  refine lnb HS.out rfl ?_
  refine lm 0 14 rfl rfl rfl rfl ?_
  simp only [sA, sB]
  refine lv 1 (.bool true) rfl rfl (by intro x hx; go_simp; (first | done | exact rfl)) ?_
  simp only [sA, sB]
  clear HS
  refine ld fun W9 HS => ?_
  go_upto_region 13 with fail
  refine lnb HS.out rfl ?_
  refine lm 0 1 rfl rfl rfl rfl ?_
  simp only [sA, sB]
  refine lm 1 2 rfl rfl rfl rfl ?_
  simp only [sA, sB]
  refine lv 2 (vS (law_around x0.V x0.Mask x0.Down x0.Up)) rfl rfl (by intro x hx; obtain ⟨f0, f1, f2, f3, f4, f5⟩ := hx.six 1 0 rfl rfl; go_simp; (first | done | exact rfl)) ?_
  simp only [sA, sB, vS]
  refine lv 3 (vS (law_around x0.W x0.Other x0.Less x0.More)) rfl rfl (by intro x hx; obtain ⟨f0, f1, f2, f3, f4, f5⟩ := hx.six 2 0 rfl rfl; go_simp; (first | done | exact rfl)) ?_
  simp only [sA, sB, vS]
  refine lm 4 14 rfl rfl rfl rfl ?_
  simp only [sA, sB]
  refine lv 5 (.bool false) rfl rfl (by intro x hx; go_simp; (first | done | exact rfl)) ?_
  simp only [sA, sB]
  refine lc 6 11 #[.int .i64 (ti (16#64 * (pick16 x1))), .bool (x2), vS (law_around x0.V x0.Mask x0.Down x0.Up), vS (law_around x0.W x0.Other x0.Less x0.More), .bool false] (.tuple #[vS ((scalar_Branch (16#64 * (pick16 x1)) x2 (law_around x0.V x0.Mask x0.Down x0.Up) (law_around x0.W x0.Other x0.Less x0.More) false).1), vS ((scalar_Branch (16#64 * (pick16 x1)) x2 (law_around x0.V x0.Mask x0.Down x0.Up) (law_around x0.W x0.Other x0.Less x0.More) false).2.1), .bool ((scalar_Branch (16#64 * (pick16 x1)) x2 (law_around x0.V x0.Mask x0.Down x0.Up) (law_around x0.W x0.Other x0.Less x0.More) false).2.2)]) rfl rfl (by intro x hx; exact scalar_Branch_any (16#64 * (pick16 x1)) x2 (law_around x0.V x0.Mask x0.Down x0.Up) (law_around x0.W x0.Other x0.Less x0.More) false _) ?_
  simp only [sA, sB, vS]
  refine lm 7 95 rfl rfl rfl rfl ?_
  simp only [sA, sB]
  refine lv 8 (vS ((scalar_Branch (16#64 * (pick16 x1)) x2 (law_around x0.V x0.Mask x0.Down x0.Up) (law_around x0.W x0.Other x0.Less x0.More) false).1)) rfl rfl (by intro x hx; go_simp; (first | done | exact rfl)) ?_
  simp only [sA, sB, vS]
  refine lv 9 (vS ((scalar_Branch (16#64 * (pick16 x1)) x2 (law_around x0.V x0.Mask x0.Down x0.Up) (law_around x0.W x0.Other x0.Less x0.More) false).2.1)) rfl rfl (by intro x hx; go_simp; (first | done | exact rfl)) ?_
  simp only [sA, sB, vS]
  refine lv 10 (.bool ((scalar_Branch (16#64 * (pick16 x1)) x2 (law_around x0.V x0.Mask x0.Down x0.Up) (law_around x0.W x0.Other x0.Less x0.More) false).2.2)) rfl rfl (by intro x hx; go_simp; (first | done | exact rfl)) ?_
  simp only [sA, sB]
  refine lin_new (i := 11) rfl rfl (by rfl) [.int .u64 0, .int .u64 0, .int .u64 0, .int .u64 0, .int .i64 0, .int .i64 0] 30 (fun k => .pointer (some ⟨k, 0, none⟩)) [some (.int .u64 0), some (.int .u64 0), some (.int .u64 0), some (.int .u64 0), some (.int .i64 0), some (.int .i64 0)] (lessC_refl _) (by intro x hx; go_simp; (first | done | exact rfl)) (fun k4 => ?_)
  simp only [sA, sB, sC, sD]
  refine lin_new (i := 12) rfl rfl (by rfl) [.int .u64 0, .int .u64 0, .int .u64 0, .int .u64 0, .int .i64 0, .int .i64 0] 30 (fun k => .pointer (some ⟨k, 0, none⟩)) [some (.int .u64 0), some (.int .u64 0), some (.int .u64 0), some (.int .u64 0), some (.int .i64 0), some (.int .i64 0)] (lessC_refl _) (by intro x hx; go_simp; (first | done | exact rfl)) (fun k5 => ?_)
  simp only [sA, sB, sC, sD]
  refine ls 13 4 0 (cS ((scalar_Branch (16#64 * (pick16 x1)) x2 (law_around x0.V x0.Mask x0.Down x0.Up) (law_around x0.W x0.Other x0.Less x0.More) false).1)) rfl rfl rfl (by intro x hx; obtain ⟨⟨_, z0, q0⟩, ⟨_, z1, q1⟩, ⟨_, z2, q2⟩, ⟨_, z3, q3⟩, ⟨_, z4, q4⟩, ⟨_, z5, q5⟩⟩ := hx.at6 4 0 rfl; go_simp; (first | done | rfl)) ?_
  simp only [Blk.putC, setM, cS, sA, sB]
  refine ls 14 5 0 (cS ((scalar_Branch (16#64 * (pick16 x1)) x2 (law_around x0.V x0.Mask x0.Down x0.Up) (law_around x0.W x0.Other x0.Less x0.More) false).2.1)) rfl rfl rfl (by intro x hx; obtain ⟨⟨_, z0, q0⟩, ⟨_, z1, q1⟩, ⟨_, z2, q2⟩, ⟨_, z3, q3⟩, ⟨_, z4, q4⟩, ⟨_, z5, q5⟩⟩ := hx.at6 5 0 rfl; go_simp; (first | done | rfl)) ?_
  simp only [Blk.putC, setM, cS, sA, sB]
  refine la 15 98 rfl rfl rfl rfl ?_
  simp only [sA, sB]
  clear HS
  refine ld fun W10 HS => ?_
  go_upto_region 14 with fail
  refine lnb HS.out rfl ?_
  refine lm 0 13 rfl rfl rfl rfl ?_
  simp only [sA, sB]
  refine lm 1 99 rfl rfl rfl rfl ?_
  simp only [sA, sB]
  refine lin_if (i := 2) (v := .bool (jmpR (16#64 * (pick16 x1)) x2 x0.V x0.W)) (jmpIs (ti (16#64 * (pick16 x1)))) rfl rfl (by generalize (jmpIs (ti (16#64 * (pick16 x1)))) = gg0; cases gg0 <;> rfl) (by intro hb; have hb31 := hid (show (jmpIs (ti (16#64 * (pick16 x1)))) = true from hb); intro x hx; (try simp only [hb]); (try simp only [cond_true]); go_simp; (first | done | exact rfl)) ?_
  simp only [sA, sB]
  refine lin_if (i := 3) (v := .int .i64 0) (jmpIs (ti (16#64 * (pick16 x1)))) rfl rfl (by generalize (jmpIs (ti (16#64 * (pick16 x1)))) = gg0; cases gg0 <;> rfl) (by intro hb; have hb32 := hid (show (jmpIs (ti (16#64 * (pick16 x1)))) = true from hb); intro x hx; (try simp only [hb]); (try simp only [cond_true]); go_simp; (first | done | exact rfl)) ?_
  simp only [sA, sB]
  refine lin_if (i := 4) (v := .bool false) (jmpIs (ti (16#64 * (pick16 x1)))) rfl rfl (by generalize (jmpIs (ti (16#64 * (pick16 x1)))) = gg0; cases gg0 <;> rfl) (by intro hb; have hb33 := hid (show (jmpIs (ti (16#64 * (pick16 x1)))) = true from hb); intro x hx; (try simp only [hb]); (try simp only [cond_true]); go_simp; (first | done | exact rfl)) ?_
  simp only [sA, sB]
  refine lin_if (i := 5) (v := .bool (((jmpR (16#64 * (pick16 x1)) x2 x0.V x0.W) == false))) (jmpIs (ti (16#64 * (pick16 x1)))) rfl rfl (by generalize (jmpIs (ti (16#64 * (pick16 x1)))) = gg0; cases gg0 <;> rfl) (by intro hb; have hb34 := hid (show (jmpIs (ti (16#64 * (pick16 x1)))) = true from hb); intro x hx; (try simp only [hb]); (try simp only [cond_true]); go_simp; (first | done | exact rfl)) ?_
  simp only [sA, sB]
  refine lv 6 (.bool ((bif jmpIs (ti (16#64 * (pick16 x1))) then ((jmpR (16#64 * (pick16 x1)) x2 x0.V x0.W) == false) else false))) rfl rfl (by intro x hx; (cases hq : (jmpIs (ti (16#64 * (pick16 x1)))) <;> first | rfl | (simp only [hq]; rfl) | simp [hq])) ?_
  simp only [sA, sB]
  refine lm 7 105 rfl rfl rfl rfl ?_
  simp only [sA, sB]
  refine lin_if (i := 8) (v := .bool ((scalar_Branch (16#64 * (pick16 x1)) x2 (law_around x0.V x0.Mask x0.Down x0.Up) (law_around x0.W x0.Other x0.Less x0.More) false).2.2)) (bif jmpIs (ti (16#64 * (pick16 x1))) then ((jmpR (16#64 * (pick16 x1)) x2 x0.V x0.W) == false) else false) rfl rfl (by generalize (bif jmpIs (ti (16#64 * (pick16 x1))) then ((jmpR (16#64 * (pick16 x1)) x2 x0.V x0.W) == false) else false) = gg0; cases gg0 <;> rfl) (by intro hb; have hb35 := hid (show ((bif jmpIs (ti (16#64 * (pick16 x1))) then ((jmpR (16#64 * (pick16 x1)) x2 x0.V x0.W) == false) else false)) = true from hb); intro x hx; (try simp only [hb]); (try simp only [cond_true]); go_simp; (first | done | exact rfl)) ?_
  simp only [sA, sB]
  refine lin_if (i := 9) (v := .bool false) (bif jmpIs (ti (16#64 * (pick16 x1))) then ((jmpR (16#64 * (pick16 x1)) x2 x0.V x0.W) == false) else false) rfl rfl (by generalize (bif jmpIs (ti (16#64 * (pick16 x1))) then ((jmpR (16#64 * (pick16 x1)) x2 x0.V x0.W) == false) else false) = gg0; cases gg0 <;> rfl) (by intro hb; have hb36 := hid (show ((bif jmpIs (ti (16#64 * (pick16 x1))) then ((jmpR (16#64 * (pick16 x1)) x2 x0.V x0.W) == false) else false)) = true from hb); intro x hx; (try simp only [hb]); (try simp only [cond_true]); go_simp; (first | done | (first | exact not_t (branch_has (bif_l hb36.out) HA.out.1 HB.out.1 HA.out.2 HB.out.2 (eq_of_beq (bif_r hb36.out))).may | exact eq_of_beq (not_t (branch_has (bif_l hb36.out) HA.out.1 HB.out.1 HA.out.2 HB.out.2 (eq_of_beq (bif_r hb36.out))).may) | exact congrArg _ (not_t (branch_has (bif_l hb36.out) HA.out.1 HB.out.1 HA.out.2 HB.out.2 (eq_of_beq (bif_r hb36.out))).may) | (rw [not_t (branch_has (bif_l hb36.out) HA.out.1 HB.out.1 HA.out.2 HB.out.2 (eq_of_beq (bif_r hb36.out))).may]; done) | ((first | rfl | skip); rw [not_t (branch_has (bif_l hb36.out) HA.out.1 HB.out.1 HA.out.2 HB.out.2 (eq_of_beq (bif_r hb36.out))).may]) | exact congrArg tn (eq_of_beq (not_t (branch_has (bif_l hb36.out) HA.out.1 HB.out.1 HA.out.2 HB.out.2 (eq_of_beq (bif_r hb36.out))).may)) | exact congrArg ti (eq_of_beq (not_t (branch_has (bif_l hb36.out) HA.out.1 HB.out.1 HA.out.2 HB.out.2 (eq_of_beq (bif_r hb36.out))).may)) | exact congrArg tn (eq_of_bne (not_t (branch_has (bif_l hb36.out) HA.out.1 HB.out.1 HA.out.2 HB.out.2 (eq_of_beq (bif_r hb36.out))).may)) | simpa using (not_t (branch_has (bif_l hb36.out) HA.out.1 HB.out.1 HA.out.2 HB.out.2 (eq_of_beq (bif_r hb36.out))).may)))) ?_
  simp only [sA, sB]
  refine lin_if (i := 10) (v := .bool false) (bif jmpIs (ti (16#64 * (pick16 x1))) then ((jmpR (16#64 * (pick16 x1)) x2 x0.V x0.W) == false) else false) rfl rfl (by generalize (bif jmpIs (ti (16#64 * (pick16 x1))) then ((jmpR (16#64 * (pick16 x1)) x2 x0.V x0.W) == false) else false) = gg0; cases gg0 <;> rfl) (by intro hb; have hb37 := hid (show ((bif jmpIs (ti (16#64 * (pick16 x1))) then ((jmpR (16#64 * (pick16 x1)) x2 x0.V x0.W) == false) else false)) = true from hb); intro x hx; (try simp only [hb]); (try simp only [cond_true]); go_simp; (first | done | exact rfl)) ?_
  simp only [sA, sB]
  refine lin_if (i := 11) (v := vS ((scalar_Branch (16#64 * (pick16 x1)) x2 (law_around x0.V x0.Mask x0.Down x0.Up) (law_around x0.W x0.Other x0.Less x0.More) false).1)) (bif jmpIs (ti (16#64 * (pick16 x1))) then ((jmpR (16#64 * (pick16 x1)) x2 x0.V x0.W) == false) else false) rfl rfl (by generalize (bif jmpIs (ti (16#64 * (pick16 x1))) then ((jmpR (16#64 * (pick16 x1)) x2 x0.V x0.W) == false) else false) = gg0; cases gg0 <;> rfl) (by intro hb; have hb38 := hid (show ((bif jmpIs (ti (16#64 * (pick16 x1))) then ((jmpR (16#64 * (pick16 x1)) x2 x0.V x0.W) == false) else false)) = true from hb); intro x hx; (try simp only [hb]); (try simp only [cond_true]); obtain ⟨f0, f1, f2, f3, f4, f5⟩ := hx.six 4 0 rfl rfl; go_simp; (first | done | exact rfl)) ?_
  simp only [sA, sB, vS]
  refine lin_if (i := 12) (v := .pointer (some ⟨w.heap.size, 0, none⟩)) (bif jmpIs (ti (16#64 * (pick16 x1))) then ((jmpR (16#64 * (pick16 x1)) x2 x0.V x0.W) == false) else false) rfl rfl (by generalize (bif jmpIs (ti (16#64 * (pick16 x1))) then ((jmpR (16#64 * (pick16 x1)) x2 x0.V x0.W) == false) else false) = gg0; cases gg0 <;> rfl) (by intro hb; have hb39 := hid (show ((bif jmpIs (ti (16#64 * (pick16 x1))) then ((jmpR (16#64 * (pick16 x1)) x2 x0.V x0.W) == false) else false)) = true from hb); intro x hx; (try simp only [hb]); (try simp only [cond_true]); go_simp; (first | done | exact rfl)) ?_
  simp only [sA, sB]
  refine lin_if (i := 13) (v := .int .u64 (tn (x0.V))) (bif jmpIs (ti (16#64 * (pick16 x1))) then ((jmpR (16#64 * (pick16 x1)) x2 x0.V x0.W) == false) else false) rfl rfl (by generalize (bif jmpIs (ti (16#64 * (pick16 x1))) then ((jmpR (16#64 * (pick16 x1)) x2 x0.V x0.W) == false) else false) = gg0; cases gg0 <;> rfl) (by intro hb; have hb40 := hid (show ((bif jmpIs (ti (16#64 * (pick16 x1))) then ((jmpR (16#64 * (pick16 x1)) x2 x0.V x0.W) == false) else false)) = true from hb); intro x hx; (try simp only [hb]); (try simp only [cond_true]); have f0 := hx.load 0 0 rfl rfl; go_simp; (first | done | exact rfl)) ?_
  simp only [sA, sB]
  refine lin_if_call (i := 14) (f := 13) (args := #[vS ((scalar_Branch (16#64 * (pick16 x1)) x2 (law_around x0.V x0.Mask x0.Down x0.Up) (law_around x0.W x0.Other x0.Less x0.More) false).1), .int .u64 (tn (x0.V))]) (v := .bool true) (bif jmpIs (ti (16#64 * (pick16 x1))) then ((jmpR (16#64 * (pick16 x1)) x2 x0.V x0.W) == false) else false) (st_ups _ _) rfl rfl (by generalize (bif jmpIs (ti (16#64 * (pick16 x1))) then ((jmpR (16#64 * (pick16 x1)) x2 x0.V x0.W) == false) else false) = gg0; cases gg0 <;> rfl) (by intro hb; have hb41 := hid (show ((bif jmpIs (ti (16#64 * (pick16 x1))) then ((jmpR (16#64 * (pick16 x1)) x2 x0.V x0.W) == false) else false)) = true from hb); intro x hx; (try simp only [hb]); (try simp only [cond_true]); kernel_rfl) (by intro hb; have hb41 := hid (show ((bif jmpIs (ti (16#64 * (pick16 x1))) then ((jmpR (16#64 * (pick16 x1)) x2 x0.V x0.W) == false) else false)) = true from hb); intro x hx; exact calls_is (scalar_In_any ((scalar_Branch (16#64 * (pick16 x1)) x2 (law_around x0.V x0.Mask x0.Down x0.Up) (law_around x0.W x0.Other x0.Less x0.More) false).1) x0.V _) (congrArg Value.bool ((branch_has (bif_l hb41.out) HA.out.1 HB.out.1 HA.out.2 HB.out.2 (eq_of_beq (bif_r hb41.out))).fst))) ?_
  simp only [sA, sB]
  refine lin_if (i := 15) (v := .bool false) (bif jmpIs (ti (16#64 * (pick16 x1))) then ((jmpR (16#64 * (pick16 x1)) x2 x0.V x0.W) == false) else false) rfl rfl (by generalize (bif jmpIs (ti (16#64 * (pick16 x1))) then ((jmpR (16#64 * (pick16 x1)) x2 x0.V x0.W) == false) else false) = gg0; cases gg0 <;> rfl) (by intro hb; have hb42 := hid (show ((bif jmpIs (ti (16#64 * (pick16 x1))) then ((jmpR (16#64 * (pick16 x1)) x2 x0.V x0.W) == false) else false)) = true from hb); intro x hx; (try simp only [hb]); (try simp only [cond_true]); go_simp; (first | done | exact rfl)) ?_
  simp only [sA, sB]
  refine lin_if (i := 16) (v := .bool false) (bif jmpIs (ti (16#64 * (pick16 x1))) then ((jmpR (16#64 * (pick16 x1)) x2 x0.V x0.W) == false) else false) rfl rfl (by generalize (bif jmpIs (ti (16#64 * (pick16 x1))) then ((jmpR (16#64 * (pick16 x1)) x2 x0.V x0.W) == false) else false) = gg0; cases gg0 <;> rfl) (by intro hb; have hb43 := hid (show ((bif jmpIs (ti (16#64 * (pick16 x1))) then ((jmpR (16#64 * (pick16 x1)) x2 x0.V x0.W) == false) else false)) = true from hb); intro x hx; (try simp only [hb]); (try simp only [cond_true]); go_simp; (first | done | exact rfl)) ?_
  simp only [sA, sB]
  refine lin_if (i := 17) (v := .bool false) (bif jmpIs (ti (16#64 * (pick16 x1))) then ((jmpR (16#64 * (pick16 x1)) x2 x0.V x0.W) == false) else false) rfl rfl (by generalize (bif jmpIs (ti (16#64 * (pick16 x1))) then ((jmpR (16#64 * (pick16 x1)) x2 x0.V x0.W) == false) else false) = gg0; cases gg0 <;> rfl) (by intro hb; have hb44 := hid (show ((bif jmpIs (ti (16#64 * (pick16 x1))) then ((jmpR (16#64 * (pick16 x1)) x2 x0.V x0.W) == false) else false)) = true from hb); intro x hx; (try simp only [hb]); (try simp only [cond_true]); go_simp; (first | done | exact rfl)) ?_
  simp only [sA, sB]
  refine lin_if (i := 18) (v := vS ((scalar_Branch (16#64 * (pick16 x1)) x2 (law_around x0.V x0.Mask x0.Down x0.Up) (law_around x0.W x0.Other x0.Less x0.More) false).2.1)) (bif jmpIs (ti (16#64 * (pick16 x1))) then ((jmpR (16#64 * (pick16 x1)) x2 x0.V x0.W) == false) else false) rfl rfl (by generalize (bif jmpIs (ti (16#64 * (pick16 x1))) then ((jmpR (16#64 * (pick16 x1)) x2 x0.V x0.W) == false) else false) = gg0; cases gg0 <;> rfl) (by intro hb; have hb45 := hid (show ((bif jmpIs (ti (16#64 * (pick16 x1))) then ((jmpR (16#64 * (pick16 x1)) x2 x0.V x0.W) == false) else false)) = true from hb); intro x hx; (try simp only [hb]); (try simp only [cond_true]); obtain ⟨f0, f1, f2, f3, f4, f5⟩ := hx.six 5 0 rfl rfl; go_simp; (first | done | exact rfl)) ?_
  simp only [sA, sB, vS]
  refine lin_if (i := 19) (v := .pointer (some ⟨w.heap.size, 1, none⟩)) (bif jmpIs (ti (16#64 * (pick16 x1))) then ((jmpR (16#64 * (pick16 x1)) x2 x0.V x0.W) == false) else false) rfl rfl (by generalize (bif jmpIs (ti (16#64 * (pick16 x1))) then ((jmpR (16#64 * (pick16 x1)) x2 x0.V x0.W) == false) else false) = gg0; cases gg0 <;> rfl) (by intro hb; have hb46 := hid (show ((bif jmpIs (ti (16#64 * (pick16 x1))) then ((jmpR (16#64 * (pick16 x1)) x2 x0.V x0.W) == false) else false)) = true from hb); intro x hx; (try simp only [hb]); (try simp only [cond_true]); go_simp; (first | done | exact rfl)) ?_
  simp only [sA, sB]
  refine lin_if (i := 20) (v := .int .u64 (tn (x0.W))) (bif jmpIs (ti (16#64 * (pick16 x1))) then ((jmpR (16#64 * (pick16 x1)) x2 x0.V x0.W) == false) else false) rfl rfl (by generalize (bif jmpIs (ti (16#64 * (pick16 x1))) then ((jmpR (16#64 * (pick16 x1)) x2 x0.V x0.W) == false) else false) = gg0; cases gg0 <;> rfl) (by intro hb; have hb47 := hid (show ((bif jmpIs (ti (16#64 * (pick16 x1))) then ((jmpR (16#64 * (pick16 x1)) x2 x0.V x0.W) == false) else false)) = true from hb); intro x hx; (try simp only [hb]); (try simp only [cond_true]); have f0 := hx.load 0 1 rfl rfl; go_simp; (first | done | exact rfl)) ?_
  simp only [sA, sB]
  refine lin_if_call (i := 21) (f := 13) (args := #[vS ((scalar_Branch (16#64 * (pick16 x1)) x2 (law_around x0.V x0.Mask x0.Down x0.Up) (law_around x0.W x0.Other x0.Less x0.More) false).2.1), .int .u64 (tn (x0.W))]) (v := .bool true) (bif jmpIs (ti (16#64 * (pick16 x1))) then ((jmpR (16#64 * (pick16 x1)) x2 x0.V x0.W) == false) else false) (st_ups _ _) rfl rfl (by generalize (bif jmpIs (ti (16#64 * (pick16 x1))) then ((jmpR (16#64 * (pick16 x1)) x2 x0.V x0.W) == false) else false) = gg0; cases gg0 <;> rfl) (by intro hb; have hb48 := hid (show ((bif jmpIs (ti (16#64 * (pick16 x1))) then ((jmpR (16#64 * (pick16 x1)) x2 x0.V x0.W) == false) else false)) = true from hb); intro x hx; (try simp only [hb]); (try simp only [cond_true]); kernel_rfl) (by intro hb; have hb48 := hid (show ((bif jmpIs (ti (16#64 * (pick16 x1))) then ((jmpR (16#64 * (pick16 x1)) x2 x0.V x0.W) == false) else false)) = true from hb); intro x hx; exact calls_is (scalar_In_any ((scalar_Branch (16#64 * (pick16 x1)) x2 (law_around x0.V x0.Mask x0.Down x0.Up) (law_around x0.W x0.Other x0.Less x0.More) false).2.1) x0.W _) (congrArg Value.bool ((branch_has (bif_l hb48.out) HA.out.1 HB.out.1 HA.out.2 HB.out.2 (eq_of_beq (bif_r hb48.out))).snd))) ?_
  simp only [sA, sB]
  refine lin_if (i := 22) (v := .bool false) (bif jmpIs (ti (16#64 * (pick16 x1))) then ((jmpR (16#64 * (pick16 x1)) x2 x0.V x0.W) == false) else false) rfl rfl (by generalize (bif jmpIs (ti (16#64 * (pick16 x1))) then ((jmpR (16#64 * (pick16 x1)) x2 x0.V x0.W) == false) else false) = gg0; cases gg0 <;> rfl) (by intro hb; have hb49 := hid (show ((bif jmpIs (ti (16#64 * (pick16 x1))) then ((jmpR (16#64 * (pick16 x1)) x2 x0.V x0.W) == false) else false)) = true from hb); intro x hx; (try simp only [hb]); (try simp only [cond_true]); go_simp; (first | done | exact rfl)) ?_
  simp only [sA, sB]
  refine lin_if (i := 23) (v := .bool false) (bif jmpIs (ti (16#64 * (pick16 x1))) then ((jmpR (16#64 * (pick16 x1)) x2 x0.V x0.W) == false) else false) rfl rfl (by generalize (bif jmpIs (ti (16#64 * (pick16 x1))) then ((jmpR (16#64 * (pick16 x1)) x2 x0.V x0.W) == false) else false) = gg0; cases gg0 <;> rfl) (by intro hb; have hb50 := hid (show ((bif jmpIs (ti (16#64 * (pick16 x1))) then ((jmpR (16#64 * (pick16 x1)) x2 x0.V x0.W) == false) else false)) = true from hb); intro x hx; (try simp only [hb]); (try simp only [cond_true]); go_simp; (first | done | exact rfl)) ?_
  simp only [sA, sB]
  refine lv 24 (.bool false) rfl rfl (by intro x hx; (cases hq : ((bif jmpIs (ti (16#64 * (pick16 x1))) then ((jmpR (16#64 * (pick16 x1)) x2 x0.V x0.W) == false) else false)) <;> first | rfl | (simp only [hq]; rfl) | simp [hq])) ?_
  simp only [sA, sB]
  refine lm 25 123 rfl rfl rfl rfl ?_
  simp only [sA, sB]
  refine lv 26 (.bool (jmpIs (ti (16#64 * (pick16 x1))))) rfl rfl (by intro x hx; go_simp; (first | done | exact rfl)) ?_
  simp only [sA, sB]
  refine lv 27 (.bool ((!(jmpIs (ti (16#64 * (pick16 x1))))))) rfl rfl (by intro x hx; go_simp; (first | done | exact rfl)) ?_
  simp only [sA, sB]
  refine lv 28 (.bool ((!(jmpIs (ti (16#64 * (pick16 x1))))))) rfl rfl (by intro x hx; go_simp; (first | done | exact rfl)) ?_
  simp only [sA, sB]
  refine lin_if (i := 29) (v := .bool ((scalar_Branch (16#64 * (pick16 x1)) x2 (law_around x0.V x0.Mask x0.Down x0.Up) (law_around x0.W x0.Other x0.Less x0.More) false).2.2)) (!(jmpIs (ti (16#64 * (pick16 x1))))) rfl rfl (by generalize (!(jmpIs (ti (16#64 * (pick16 x1))))) = gg0; cases gg0 <;> rfl) (by intro hb; have hb51 := hid (show ((!(jmpIs (ti (16#64 * (pick16 x1)))))) = true from hb); intro x hx; (try simp only [hb]); (try simp only [cond_true]); go_simp; (first | done | exact rfl)) ?_
  simp only [sA, sB]
  refine lin_if (i := 30) (v := .bool false) (!(jmpIs (ti (16#64 * (pick16 x1))))) rfl rfl (by generalize (!(jmpIs (ti (16#64 * (pick16 x1))))) = gg0; cases gg0 <;> rfl) (by intro hb; have hb52 := hid (show ((!(jmpIs (ti (16#64 * (pick16 x1)))))) = true from hb); intro x hx; (try simp only [hb]); (try simp only [cond_true]); go_simp; (first | done | (first | exact not_t (branch_may (flip_f hb52).out) | exact eq_of_beq (not_t (branch_may (flip_f hb52).out)) | exact congrArg _ (not_t (branch_may (flip_f hb52).out)) | (rw [not_t (branch_may (flip_f hb52).out)]; done) | ((first | rfl | skip); rw [not_t (branch_may (flip_f hb52).out)]) | exact congrArg tn (eq_of_beq (not_t (branch_may (flip_f hb52).out))) | exact congrArg ti (eq_of_beq (not_t (branch_may (flip_f hb52).out))) | exact congrArg tn (eq_of_bne (not_t (branch_may (flip_f hb52).out))) | simpa using (not_t (branch_may (flip_f hb52).out))))) ?_
  simp only [sA, sB]
  refine lv 31 (.bool false) rfl rfl (by intro x hx; (cases hq : ((!(jmpIs (ti (16#64 * (pick16 x1)))))) <;> first | rfl | (simp only [hq]; rfl) | simp [hq])) ?_
  simp only [sA, sB]
  refine lv 32 (.bool false) rfl rfl (by intro x hx; go_simp; (first | done | exact rfl)) ?_
  simp only [sA, sB]
  clear HS
  refine ld fun W11 HS => ?_
  go_upto_region 16 with fail
  refine lnb HS.out rfl ?_
  refine lm 0 17 rfl rfl rfl rfl ?_
  simp only [sA, sB]
  refine lm 1 132 rfl rfl rfl rfl ?_
  simp only [sA, sB]
  refine lin_if (i := 2) (v := .bool (jmpIs (ti (16#64 * (pick16 x1))))) ((scalar_Branch (16#64 * (pick16 x1)) x2 (law_around x0.V x0.Mask x0.Down x0.Up) (law_around x0.W x0.Other x0.Less x0.More) false).2.2) rfl rfl (by generalize ((scalar_Branch (16#64 * (pick16 x1)) x2 (law_around x0.V x0.Mask x0.Down x0.Up) (law_around x0.W x0.Other x0.Less x0.More) false).2.2) = gg0; cases gg0 <;> rfl) (by intro hb; have hb53 := hid (show ((scalar_Branch (16#64 * (pick16 x1)) x2 (law_around x0.V x0.Mask x0.Down x0.Up) (law_around x0.W x0.Other x0.Less x0.More) false).2.2) = true from hb); intro x hx; (try simp only [hb]); (try simp only [cond_true]); go_simp; (first | done | exact rfl)) ?_
  simp only [sA, sB]
  refine lv 3 (.bool ((bif (scalar_Branch (16#64 * (pick16 x1)) x2 (law_around x0.V x0.Mask x0.Down x0.Up) (law_around x0.W x0.Other x0.Less x0.More) false).2.2 then jmpIs (ti (16#64 * (pick16 x1))) else false))) rfl rfl (by intro x hx; (cases hq : ((scalar_Branch (16#64 * (pick16 x1)) x2 (law_around x0.V x0.Mask x0.Down x0.Up) (law_around x0.W x0.Other x0.Less x0.More) false).2.2) <;> first | rfl | (simp only [hq]; rfl) | simp [hq])) ?_
  simp only [sA, sB]
  refine lm 4 135 rfl rfl rfl rfl ?_
  simp only [sA, sB]
  refine lin_if (i := 5) (v := vS ((scalar_Branch (16#64 * (pick16 x1)) x2 (law_around x0.V x0.Mask x0.Down x0.Up) (law_around x0.W x0.Other x0.Less x0.More) false).1)) (bif (scalar_Branch (16#64 * (pick16 x1)) x2 (law_around x0.V x0.Mask x0.Down x0.Up) (law_around x0.W x0.Other x0.Less x0.More) false).2.2 then jmpIs (ti (16#64 * (pick16 x1))) else false) rfl rfl (by generalize (bif (scalar_Branch (16#64 * (pick16 x1)) x2 (law_around x0.V x0.Mask x0.Down x0.Up) (law_around x0.W x0.Other x0.Less x0.More) false).2.2 then jmpIs (ti (16#64 * (pick16 x1))) else false) = gg0; cases gg0 <;> rfl) (by intro hb; have hb54 := hid (show ((bif (scalar_Branch (16#64 * (pick16 x1)) x2 (law_around x0.V x0.Mask x0.Down x0.Up) (law_around x0.W x0.Other x0.Less x0.More) false).2.2 then jmpIs (ti (16#64 * (pick16 x1))) else false)) = true from hb); intro x hx; (try simp only [hb]); (try simp only [cond_true]); obtain ⟨f0, f1, f2, f3, f4, f5⟩ := hx.six 4 0 rfl rfl; go_simp; (first | done | exact rfl)) ?_
  simp only [sA, sB, vS]
  refine lin_if (i := 6) (v := vS (law_around x0.V x0.Mask x0.Down x0.Up)) (bif (scalar_Branch (16#64 * (pick16 x1)) x2 (law_around x0.V x0.Mask x0.Down x0.Up) (law_around x0.W x0.Other x0.Less x0.More) false).2.2 then jmpIs (ti (16#64 * (pick16 x1))) else false) rfl rfl (by generalize (bif (scalar_Branch (16#64 * (pick16 x1)) x2 (law_around x0.V x0.Mask x0.Down x0.Up) (law_around x0.W x0.Other x0.Less x0.More) false).2.2 then jmpIs (ti (16#64 * (pick16 x1))) else false) = gg0; cases gg0 <;> rfl) (by intro hb; have hb55 := hid (show ((bif (scalar_Branch (16#64 * (pick16 x1)) x2 (law_around x0.V x0.Mask x0.Down x0.Up) (law_around x0.W x0.Other x0.Less x0.More) false).2.2 then jmpIs (ti (16#64 * (pick16 x1))) else false)) = true from hb); intro x hx; (try simp only [hb]); (try simp only [cond_true]); obtain ⟨f0, f1, f2, f3, f4, f5⟩ := hx.six 1 0 rfl rfl; go_simp; (first | done | exact rfl)) ?_
  simp only [sA, sB, vS]
  refine lin_if_call (i := 7) (f := 15) (args := #[vS ((scalar_Branch (16#64 * (pick16 x1)) x2 (law_around x0.V x0.Mask x0.Down x0.Up) (law_around x0.W x0.Other x0.Less x0.More) false).1), vS (law_around x0.V x0.Mask x0.Down x0.Up)]) (v := .bool true) (bif (scalar_Branch (16#64 * (pick16 x1)) x2 (law_around x0.V x0.Mask x0.Down x0.Up) (law_around x0.W x0.Other x0.Less x0.More) false).2.2 then jmpIs (ti (16#64 * (pick16 x1))) else false) (st_ups _ _) rfl rfl (by generalize (bif (scalar_Branch (16#64 * (pick16 x1)) x2 (law_around x0.V x0.Mask x0.Down x0.Up) (law_around x0.W x0.Other x0.Less x0.More) false).2.2 then jmpIs (ti (16#64 * (pick16 x1))) else false) = gg0; cases gg0 <;> rfl) (by intro hb; have hb56 := hid (show ((bif (scalar_Branch (16#64 * (pick16 x1)) x2 (law_around x0.V x0.Mask x0.Down x0.Up) (law_around x0.W x0.Other x0.Less x0.More) false).2.2 then jmpIs (ti (16#64 * (pick16 x1))) else false)) = true from hb); intro x hx; (try simp only [hb]); (try simp only [cond_true]); kernel_rfl) (by intro hb; have hb56 := hid (show ((bif (scalar_Branch (16#64 * (pick16 x1)) x2 (law_around x0.V x0.Mask x0.Down x0.Up) (law_around x0.W x0.Other x0.Less x0.More) false).2.2 then jmpIs (ti (16#64 * (pick16 x1))) else false)) = true from hb); intro x hx; exact calls_is (scalar_Within_any ((scalar_Branch (16#64 * (pick16 x1)) x2 (law_around x0.V x0.Mask x0.Down x0.Up) (law_around x0.W x0.Other x0.Less x0.More) false).1) (law_around x0.V x0.Mask x0.Down x0.Up) _) (congrArg Value.bool ((branch_sub HA.out.1 HB.out.1 HA.out.2 HB.out.2 (bif_l hb56.out)).1))) ?_
  simp only [sA, sB]
  refine lin_if (i := 8) (v := .bool false) (bif (scalar_Branch (16#64 * (pick16 x1)) x2 (law_around x0.V x0.Mask x0.Down x0.Up) (law_around x0.W x0.Other x0.Less x0.More) false).2.2 then jmpIs (ti (16#64 * (pick16 x1))) else false) rfl rfl (by generalize (bif (scalar_Branch (16#64 * (pick16 x1)) x2 (law_around x0.V x0.Mask x0.Down x0.Up) (law_around x0.W x0.Other x0.Less x0.More) false).2.2 then jmpIs (ti (16#64 * (pick16 x1))) else false) = gg0; cases gg0 <;> rfl) (by intro hb; have hb57 := hid (show ((bif (scalar_Branch (16#64 * (pick16 x1)) x2 (law_around x0.V x0.Mask x0.Down x0.Up) (law_around x0.W x0.Other x0.Less x0.More) false).2.2 then jmpIs (ti (16#64 * (pick16 x1))) else false)) = true from hb); intro x hx; (try simp only [hb]); (try simp only [cond_true]); go_simp; (first | done | exact rfl)) ?_
  simp only [sA, sB]
  refine lin_if (i := 9) (v := .bool false) (bif (scalar_Branch (16#64 * (pick16 x1)) x2 (law_around x0.V x0.Mask x0.Down x0.Up) (law_around x0.W x0.Other x0.Less x0.More) false).2.2 then jmpIs (ti (16#64 * (pick16 x1))) else false) rfl rfl (by generalize (bif (scalar_Branch (16#64 * (pick16 x1)) x2 (law_around x0.V x0.Mask x0.Down x0.Up) (law_around x0.W x0.Other x0.Less x0.More) false).2.2 then jmpIs (ti (16#64 * (pick16 x1))) else false) = gg0; cases gg0 <;> rfl) (by intro hb; have hb58 := hid (show ((bif (scalar_Branch (16#64 * (pick16 x1)) x2 (law_around x0.V x0.Mask x0.Down x0.Up) (law_around x0.W x0.Other x0.Less x0.More) false).2.2 then jmpIs (ti (16#64 * (pick16 x1))) else false)) = true from hb); intro x hx; (try simp only [hb]); (try simp only [cond_true]); go_simp; (first | done | exact rfl)) ?_
  simp only [sA, sB]
  refine lin_if (i := 10) (v := vS ((scalar_Branch (16#64 * (pick16 x1)) x2 (law_around x0.V x0.Mask x0.Down x0.Up) (law_around x0.W x0.Other x0.Less x0.More) false).2.1)) (bif (scalar_Branch (16#64 * (pick16 x1)) x2 (law_around x0.V x0.Mask x0.Down x0.Up) (law_around x0.W x0.Other x0.Less x0.More) false).2.2 then jmpIs (ti (16#64 * (pick16 x1))) else false) rfl rfl (by generalize (bif (scalar_Branch (16#64 * (pick16 x1)) x2 (law_around x0.V x0.Mask x0.Down x0.Up) (law_around x0.W x0.Other x0.Less x0.More) false).2.2 then jmpIs (ti (16#64 * (pick16 x1))) else false) = gg0; cases gg0 <;> rfl) (by intro hb; have hb59 := hid (show ((bif (scalar_Branch (16#64 * (pick16 x1)) x2 (law_around x0.V x0.Mask x0.Down x0.Up) (law_around x0.W x0.Other x0.Less x0.More) false).2.2 then jmpIs (ti (16#64 * (pick16 x1))) else false)) = true from hb); intro x hx; (try simp only [hb]); (try simp only [cond_true]); obtain ⟨f0, f1, f2, f3, f4, f5⟩ := hx.six 5 0 rfl rfl; go_simp; (first | done | exact rfl)) ?_
  simp only [sA, sB, vS]
  refine lin_if (i := 11) (v := vS (law_around x0.W x0.Other x0.Less x0.More)) (bif (scalar_Branch (16#64 * (pick16 x1)) x2 (law_around x0.V x0.Mask x0.Down x0.Up) (law_around x0.W x0.Other x0.Less x0.More) false).2.2 then jmpIs (ti (16#64 * (pick16 x1))) else false) rfl rfl (by generalize (bif (scalar_Branch (16#64 * (pick16 x1)) x2 (law_around x0.V x0.Mask x0.Down x0.Up) (law_around x0.W x0.Other x0.Less x0.More) false).2.2 then jmpIs (ti (16#64 * (pick16 x1))) else false) = gg0; cases gg0 <;> rfl) (by intro hb; have hb60 := hid (show ((bif (scalar_Branch (16#64 * (pick16 x1)) x2 (law_around x0.V x0.Mask x0.Down x0.Up) (law_around x0.W x0.Other x0.Less x0.More) false).2.2 then jmpIs (ti (16#64 * (pick16 x1))) else false)) = true from hb); intro x hx; (try simp only [hb]); (try simp only [cond_true]); obtain ⟨f0, f1, f2, f3, f4, f5⟩ := hx.six 2 0 rfl rfl; go_simp; (first | done | exact rfl)) ?_
  simp only [sA, sB, vS]
  refine lin_if_call (i := 12) (f := 15) (args := #[vS ((scalar_Branch (16#64 * (pick16 x1)) x2 (law_around x0.V x0.Mask x0.Down x0.Up) (law_around x0.W x0.Other x0.Less x0.More) false).2.1), vS (law_around x0.W x0.Other x0.Less x0.More)]) (v := .bool true) (bif (scalar_Branch (16#64 * (pick16 x1)) x2 (law_around x0.V x0.Mask x0.Down x0.Up) (law_around x0.W x0.Other x0.Less x0.More) false).2.2 then jmpIs (ti (16#64 * (pick16 x1))) else false) (st_ups _ _) rfl rfl (by generalize (bif (scalar_Branch (16#64 * (pick16 x1)) x2 (law_around x0.V x0.Mask x0.Down x0.Up) (law_around x0.W x0.Other x0.Less x0.More) false).2.2 then jmpIs (ti (16#64 * (pick16 x1))) else false) = gg0; cases gg0 <;> rfl) (by intro hb; have hb61 := hid (show ((bif (scalar_Branch (16#64 * (pick16 x1)) x2 (law_around x0.V x0.Mask x0.Down x0.Up) (law_around x0.W x0.Other x0.Less x0.More) false).2.2 then jmpIs (ti (16#64 * (pick16 x1))) else false)) = true from hb); intro x hx; (try simp only [hb]); (try simp only [cond_true]); kernel_rfl) (by intro hb; have hb61 := hid (show ((bif (scalar_Branch (16#64 * (pick16 x1)) x2 (law_around x0.V x0.Mask x0.Down x0.Up) (law_around x0.W x0.Other x0.Less x0.More) false).2.2 then jmpIs (ti (16#64 * (pick16 x1))) else false)) = true from hb); intro x hx; exact calls_is (scalar_Within_any ((scalar_Branch (16#64 * (pick16 x1)) x2 (law_around x0.V x0.Mask x0.Down x0.Up) (law_around x0.W x0.Other x0.Less x0.More) false).2.1) (law_around x0.W x0.Other x0.Less x0.More) _) (congrArg Value.bool ((branch_sub HA.out.1 HB.out.1 HA.out.2 HB.out.2 (bif_l hb61.out)).2))) ?_
  simp only [sA, sB]
  refine lin_if (i := 13) (v := .bool false) (bif (scalar_Branch (16#64 * (pick16 x1)) x2 (law_around x0.V x0.Mask x0.Down x0.Up) (law_around x0.W x0.Other x0.Less x0.More) false).2.2 then jmpIs (ti (16#64 * (pick16 x1))) else false) rfl rfl (by generalize (bif (scalar_Branch (16#64 * (pick16 x1)) x2 (law_around x0.V x0.Mask x0.Down x0.Up) (law_around x0.W x0.Other x0.Less x0.More) false).2.2 then jmpIs (ti (16#64 * (pick16 x1))) else false) = gg0; cases gg0 <;> rfl) (by intro hb; have hb62 := hid (show ((bif (scalar_Branch (16#64 * (pick16 x1)) x2 (law_around x0.V x0.Mask x0.Down x0.Up) (law_around x0.W x0.Other x0.Less x0.More) false).2.2 then jmpIs (ti (16#64 * (pick16 x1))) else false)) = true from hb); intro x hx; (try simp only [hb]); (try simp only [cond_true]); go_simp; (first | done | exact rfl)) ?_
  simp only [sA, sB]
  refine lin_if (i := 14) (v := .bool false) (bif (scalar_Branch (16#64 * (pick16 x1)) x2 (law_around x0.V x0.Mask x0.Down x0.Up) (law_around x0.W x0.Other x0.Less x0.More) false).2.2 then jmpIs (ti (16#64 * (pick16 x1))) else false) rfl rfl (by generalize (bif (scalar_Branch (16#64 * (pick16 x1)) x2 (law_around x0.V x0.Mask x0.Down x0.Up) (law_around x0.W x0.Other x0.Less x0.More) false).2.2 then jmpIs (ti (16#64 * (pick16 x1))) else false) = gg0; cases gg0 <;> rfl) (by intro hb; have hb63 := hid (show ((bif (scalar_Branch (16#64 * (pick16 x1)) x2 (law_around x0.V x0.Mask x0.Down x0.Up) (law_around x0.W x0.Other x0.Less x0.More) false).2.2 then jmpIs (ti (16#64 * (pick16 x1))) else false)) = true from hb); intro x hx; (try simp only [hb]); (try simp only [cond_true]); go_simp; (first | done | exact rfl)) ?_
  simp only [sA, sB]
  refine lv 15 (.bool false) rfl rfl (by intro x hx; (cases hq : ((bif (scalar_Branch (16#64 * (pick16 x1)) x2 (law_around x0.V x0.Mask x0.Down x0.Up) (law_around x0.W x0.Other x0.Less x0.More) false).2.2 then jmpIs (ti (16#64 * (pick16 x1))) else false)) <;> first | rfl | (simp only [hq]; rfl) | simp [hq])) ?_
  simp only [sA, sB]
  clear HS
  refine ld fun W12 HS => ?_
  go_upto_region 12 with fail
  refine lnb HS.out rfl ?_
  refine lm 0 14 rfl rfl rfl rfl ?_
  simp only [sA, sB]
  refine lv 1 (.int .i64 1) rfl rfl (by intro x hx; go_simp; (first | done | exact rfl)) ?_
  simp only [sA, sB]
  refine la 2 87 rfl rfl rfl rfl ?_
  simp only [sA, sB]
  clear HS
  refine ld fun W13 HS => ?_
  go_wp2
  rw [rounds_succ]
  go_upto_region 11 with fail
  refine lnb HS.out rfl ?_
  refine lm 0 14 rfl rfl rfl rfl ?_
  simp only [sA, sB]
  refine lv 1 (.bool true) rfl rfl (by intro x hx; go_simp; (first | done | exact rfl)) ?_
  simp only [sA, sB]
  clear HS
  refine ld fun W14 HS => ?_
  go_upto_region 13 with fail
  refine lnb HS.out rfl ?_
  refine lm 0 1 rfl rfl rfl rfl ?_
  simp only [sA, sB]
  refine lm 1 2 rfl rfl rfl rfl ?_
  simp only [sA, sB]
  refine lv 2 (vS (law_around x0.V x0.Mask x0.Down x0.Up)) rfl rfl (by intro x hx; obtain ⟨f0, f1, f2, f3, f4, f5⟩ := hx.six 1 0 rfl rfl; go_simp; (first | done | exact rfl)) ?_
  simp only [sA, sB, vS]
  refine lv 3 (vS (law_around x0.W x0.Other x0.Less x0.More)) rfl rfl (by intro x hx; obtain ⟨f0, f1, f2, f3, f4, f5⟩ := hx.six 2 0 rfl rfl; go_simp; (first | done | exact rfl)) ?_
  simp only [sA, sB, vS]
  refine lm 4 14 rfl rfl rfl rfl ?_
  simp only [sA, sB]
  refine lv 5 (.bool true) rfl rfl (by intro x hx; go_simp; (first | done | exact rfl)) ?_
  simp only [sA, sB]
  refine lc 6 11 #[.int .i64 (ti (16#64 * (pick16 x1))), .bool (x2), vS (law_around x0.V x0.Mask x0.Down x0.Up), vS (law_around x0.W x0.Other x0.Less x0.More), .bool true] (.tuple #[vS ((scalar_Branch (16#64 * (pick16 x1)) x2 (law_around x0.V x0.Mask x0.Down x0.Up) (law_around x0.W x0.Other x0.Less x0.More) true).1), vS ((scalar_Branch (16#64 * (pick16 x1)) x2 (law_around x0.V x0.Mask x0.Down x0.Up) (law_around x0.W x0.Other x0.Less x0.More) true).2.1), .bool ((scalar_Branch (16#64 * (pick16 x1)) x2 (law_around x0.V x0.Mask x0.Down x0.Up) (law_around x0.W x0.Other x0.Less x0.More) true).2.2)]) rfl rfl (by intro x hx; exact scalar_Branch_any (16#64 * (pick16 x1)) x2 (law_around x0.V x0.Mask x0.Down x0.Up) (law_around x0.W x0.Other x0.Less x0.More) true _) ?_
  simp only [sA, sB, vS]
  refine lm 7 95 rfl rfl rfl rfl ?_
  simp only [sA, sB]
  refine lv 8 (vS ((scalar_Branch (16#64 * (pick16 x1)) x2 (law_around x0.V x0.Mask x0.Down x0.Up) (law_around x0.W x0.Other x0.Less x0.More) true).1)) rfl rfl (by intro x hx; go_simp; (first | done | exact rfl)) ?_
  simp only [sA, sB, vS]
  refine lv 9 (vS ((scalar_Branch (16#64 * (pick16 x1)) x2 (law_around x0.V x0.Mask x0.Down x0.Up) (law_around x0.W x0.Other x0.Less x0.More) true).2.1)) rfl rfl (by intro x hx; go_simp; (first | done | exact rfl)) ?_
  simp only [sA, sB, vS]
  refine lv 10 (.bool ((scalar_Branch (16#64 * (pick16 x1)) x2 (law_around x0.V x0.Mask x0.Down x0.Up) (law_around x0.W x0.Other x0.Less x0.More) true).2.2)) rfl rfl (by intro x hx; go_simp; (first | done | exact rfl)) ?_
  simp only [sA, sB]
  refine lin_new (i := 11) rfl rfl (by rfl) [.int .u64 0, .int .u64 0, .int .u64 0, .int .u64 0, .int .i64 0, .int .i64 0] 30 (fun k => .pointer (some ⟨k, 0, none⟩)) [some (.int .u64 0), some (.int .u64 0), some (.int .u64 0), some (.int .u64 0), some (.int .i64 0), some (.int .i64 0)] (lessC_refl _) (by intro x hx; go_simp; (first | done | exact rfl)) (fun k6 => ?_)
  simp only [sA, sB, sC, sD]
  refine lin_new (i := 12) rfl rfl (by rfl) [.int .u64 0, .int .u64 0, .int .u64 0, .int .u64 0, .int .i64 0, .int .i64 0] 30 (fun k => .pointer (some ⟨k, 0, none⟩)) [some (.int .u64 0), some (.int .u64 0), some (.int .u64 0), some (.int .u64 0), some (.int .i64 0), some (.int .i64 0)] (lessC_refl _) (by intro x hx; go_simp; (first | done | exact rfl)) (fun k7 => ?_)
  simp only [sA, sB, sC, sD]
  refine ls 13 6 0 (cS ((scalar_Branch (16#64 * (pick16 x1)) x2 (law_around x0.V x0.Mask x0.Down x0.Up) (law_around x0.W x0.Other x0.Less x0.More) true).1)) rfl rfl rfl (by intro x hx; obtain ⟨⟨_, z0, q0⟩, ⟨_, z1, q1⟩, ⟨_, z2, q2⟩, ⟨_, z3, q3⟩, ⟨_, z4, q4⟩, ⟨_, z5, q5⟩⟩ := hx.at6 6 0 rfl; go_simp; (first | done | rfl)) ?_
  simp only [Blk.putC, setM, cS, sA, sB]
  refine ls 14 7 0 (cS ((scalar_Branch (16#64 * (pick16 x1)) x2 (law_around x0.V x0.Mask x0.Down x0.Up) (law_around x0.W x0.Other x0.Less x0.More) true).2.1)) rfl rfl rfl (by intro x hx; obtain ⟨⟨_, z0, q0⟩, ⟨_, z1, q1⟩, ⟨_, z2, q2⟩, ⟨_, z3, q3⟩, ⟨_, z4, q4⟩, ⟨_, z5, q5⟩⟩ := hx.at6 7 0 rfl; go_simp; (first | done | rfl)) ?_
  simp only [Blk.putC, setM, cS, sA, sB]
  refine la 15 98 rfl rfl rfl rfl ?_
  simp only [sA, sB]
  clear HS
  refine ld fun W15 HS => ?_
  go_upto_region 14 with fail
  refine lnb HS.out rfl ?_
  refine lm 0 13 rfl rfl rfl rfl ?_
  simp only [sA, sB]
  refine lm 1 99 rfl rfl rfl rfl ?_
  simp only [sA, sB]
  refine lin_if (i := 2) (v := .bool (jmpR (16#64 * (pick16 x1)) x2 x0.V x0.W)) (jmpIs (ti (16#64 * (pick16 x1)))) rfl rfl (by generalize (jmpIs (ti (16#64 * (pick16 x1)))) = gg0; cases gg0 <;> rfl) (by intro hb; have hb64 := hid (show (jmpIs (ti (16#64 * (pick16 x1)))) = true from hb); intro x hx; (try simp only [hb]); (try simp only [cond_true]); go_simp; (first | done | exact rfl)) ?_
  simp only [sA, sB]
  refine lin_if (i := 3) (v := .int .i64 1) (jmpIs (ti (16#64 * (pick16 x1)))) rfl rfl (by generalize (jmpIs (ti (16#64 * (pick16 x1)))) = gg0; cases gg0 <;> rfl) (by intro hb; have hb65 := hid (show (jmpIs (ti (16#64 * (pick16 x1)))) = true from hb); intro x hx; (try simp only [hb]); (try simp only [cond_true]); go_simp; (first | done | exact rfl)) ?_
  simp only [sA, sB]
  refine lin_if (i := 4) (v := .bool true) (jmpIs (ti (16#64 * (pick16 x1)))) rfl rfl (by generalize (jmpIs (ti (16#64 * (pick16 x1)))) = gg0; cases gg0 <;> rfl) (by intro hb; have hb66 := hid (show (jmpIs (ti (16#64 * (pick16 x1)))) = true from hb); intro x hx; (try simp only [hb]); (try simp only [cond_true]); go_simp; (first | done | exact rfl)) ?_
  simp only [sA, sB]
  refine lin_if (i := 5) (v := .bool (((jmpR (16#64 * (pick16 x1)) x2 x0.V x0.W) == true))) (jmpIs (ti (16#64 * (pick16 x1)))) rfl rfl (by generalize (jmpIs (ti (16#64 * (pick16 x1)))) = gg0; cases gg0 <;> rfl) (by intro hb; have hb67 := hid (show (jmpIs (ti (16#64 * (pick16 x1)))) = true from hb); intro x hx; (try simp only [hb]); (try simp only [cond_true]); go_simp; (first | done | exact rfl)) ?_
  simp only [sA, sB]
  refine lv 6 (.bool ((bif jmpIs (ti (16#64 * (pick16 x1))) then ((jmpR (16#64 * (pick16 x1)) x2 x0.V x0.W) == true) else false))) rfl rfl (by intro x hx; (cases hq : (jmpIs (ti (16#64 * (pick16 x1)))) <;> first | rfl | (simp only [hq]; rfl) | simp [hq])) ?_
  simp only [sA, sB]
  refine lm 7 105 rfl rfl rfl rfl ?_
  simp only [sA, sB]
  refine lin_if (i := 8) (v := .bool ((scalar_Branch (16#64 * (pick16 x1)) x2 (law_around x0.V x0.Mask x0.Down x0.Up) (law_around x0.W x0.Other x0.Less x0.More) true).2.2)) (bif jmpIs (ti (16#64 * (pick16 x1))) then ((jmpR (16#64 * (pick16 x1)) x2 x0.V x0.W) == true) else false) rfl rfl (by generalize (bif jmpIs (ti (16#64 * (pick16 x1))) then ((jmpR (16#64 * (pick16 x1)) x2 x0.V x0.W) == true) else false) = gg0; cases gg0 <;> rfl) (by intro hb; have hb68 := hid (show ((bif jmpIs (ti (16#64 * (pick16 x1))) then ((jmpR (16#64 * (pick16 x1)) x2 x0.V x0.W) == true) else false)) = true from hb); intro x hx; (try simp only [hb]); (try simp only [cond_true]); go_simp; (first | done | exact rfl)) ?_
  simp only [sA, sB]
  refine lin_if (i := 9) (v := .bool false) (bif jmpIs (ti (16#64 * (pick16 x1))) then ((jmpR (16#64 * (pick16 x1)) x2 x0.V x0.W) == true) else false) rfl rfl (by generalize (bif jmpIs (ti (16#64 * (pick16 x1))) then ((jmpR (16#64 * (pick16 x1)) x2 x0.V x0.W) == true) else false) = gg0; cases gg0 <;> rfl) (by intro hb; have hb69 := hid (show ((bif jmpIs (ti (16#64 * (pick16 x1))) then ((jmpR (16#64 * (pick16 x1)) x2 x0.V x0.W) == true) else false)) = true from hb); intro x hx; (try simp only [hb]); (try simp only [cond_true]); go_simp; (first | done | (first | exact not_t (branch_has (bif_l hb69.out) HA.out.1 HB.out.1 HA.out.2 HB.out.2 (eq_of_beq (bif_r hb69.out))).may | exact eq_of_beq (not_t (branch_has (bif_l hb69.out) HA.out.1 HB.out.1 HA.out.2 HB.out.2 (eq_of_beq (bif_r hb69.out))).may) | exact congrArg _ (not_t (branch_has (bif_l hb69.out) HA.out.1 HB.out.1 HA.out.2 HB.out.2 (eq_of_beq (bif_r hb69.out))).may) | (rw [not_t (branch_has (bif_l hb69.out) HA.out.1 HB.out.1 HA.out.2 HB.out.2 (eq_of_beq (bif_r hb69.out))).may]; done) | ((first | rfl | skip); rw [not_t (branch_has (bif_l hb69.out) HA.out.1 HB.out.1 HA.out.2 HB.out.2 (eq_of_beq (bif_r hb69.out))).may]) | exact congrArg tn (eq_of_beq (not_t (branch_has (bif_l hb69.out) HA.out.1 HB.out.1 HA.out.2 HB.out.2 (eq_of_beq (bif_r hb69.out))).may)) | exact congrArg ti (eq_of_beq (not_t (branch_has (bif_l hb69.out) HA.out.1 HB.out.1 HA.out.2 HB.out.2 (eq_of_beq (bif_r hb69.out))).may)) | exact congrArg tn (eq_of_bne (not_t (branch_has (bif_l hb69.out) HA.out.1 HB.out.1 HA.out.2 HB.out.2 (eq_of_beq (bif_r hb69.out))).may)) | simpa using (not_t (branch_has (bif_l hb69.out) HA.out.1 HB.out.1 HA.out.2 HB.out.2 (eq_of_beq (bif_r hb69.out))).may)))) ?_
  simp only [sA, sB]
  refine lin_if (i := 10) (v := .bool false) (bif jmpIs (ti (16#64 * (pick16 x1))) then ((jmpR (16#64 * (pick16 x1)) x2 x0.V x0.W) == true) else false) rfl rfl (by generalize (bif jmpIs (ti (16#64 * (pick16 x1))) then ((jmpR (16#64 * (pick16 x1)) x2 x0.V x0.W) == true) else false) = gg0; cases gg0 <;> rfl) (by intro hb; have hb70 := hid (show ((bif jmpIs (ti (16#64 * (pick16 x1))) then ((jmpR (16#64 * (pick16 x1)) x2 x0.V x0.W) == true) else false)) = true from hb); intro x hx; (try simp only [hb]); (try simp only [cond_true]); go_simp; (first | done | exact rfl)) ?_
  simp only [sA, sB]
  refine lin_if (i := 11) (v := vS ((scalar_Branch (16#64 * (pick16 x1)) x2 (law_around x0.V x0.Mask x0.Down x0.Up) (law_around x0.W x0.Other x0.Less x0.More) true).1)) (bif jmpIs (ti (16#64 * (pick16 x1))) then ((jmpR (16#64 * (pick16 x1)) x2 x0.V x0.W) == true) else false) rfl rfl (by generalize (bif jmpIs (ti (16#64 * (pick16 x1))) then ((jmpR (16#64 * (pick16 x1)) x2 x0.V x0.W) == true) else false) = gg0; cases gg0 <;> rfl) (by intro hb; have hb71 := hid (show ((bif jmpIs (ti (16#64 * (pick16 x1))) then ((jmpR (16#64 * (pick16 x1)) x2 x0.V x0.W) == true) else false)) = true from hb); intro x hx; (try simp only [hb]); (try simp only [cond_true]); obtain ⟨f0, f1, f2, f3, f4, f5⟩ := hx.six 6 0 rfl rfl; go_simp; (first | done | exact rfl)) ?_
  simp only [sA, sB, vS]
  refine lin_if (i := 12) (v := .pointer (some ⟨w.heap.size, 0, none⟩)) (bif jmpIs (ti (16#64 * (pick16 x1))) then ((jmpR (16#64 * (pick16 x1)) x2 x0.V x0.W) == true) else false) rfl rfl (by generalize (bif jmpIs (ti (16#64 * (pick16 x1))) then ((jmpR (16#64 * (pick16 x1)) x2 x0.V x0.W) == true) else false) = gg0; cases gg0 <;> rfl) (by intro hb; have hb72 := hid (show ((bif jmpIs (ti (16#64 * (pick16 x1))) then ((jmpR (16#64 * (pick16 x1)) x2 x0.V x0.W) == true) else false)) = true from hb); intro x hx; (try simp only [hb]); (try simp only [cond_true]); go_simp; (first | done | exact rfl)) ?_
  simp only [sA, sB]
  refine lin_if (i := 13) (v := .int .u64 (tn (x0.V))) (bif jmpIs (ti (16#64 * (pick16 x1))) then ((jmpR (16#64 * (pick16 x1)) x2 x0.V x0.W) == true) else false) rfl rfl (by generalize (bif jmpIs (ti (16#64 * (pick16 x1))) then ((jmpR (16#64 * (pick16 x1)) x2 x0.V x0.W) == true) else false) = gg0; cases gg0 <;> rfl) (by intro hb; have hb73 := hid (show ((bif jmpIs (ti (16#64 * (pick16 x1))) then ((jmpR (16#64 * (pick16 x1)) x2 x0.V x0.W) == true) else false)) = true from hb); intro x hx; (try simp only [hb]); (try simp only [cond_true]); have f0 := hx.load 0 0 rfl rfl; go_simp; (first | done | exact rfl)) ?_
  simp only [sA, sB]
  refine lin_if_call (i := 14) (f := 13) (args := #[vS ((scalar_Branch (16#64 * (pick16 x1)) x2 (law_around x0.V x0.Mask x0.Down x0.Up) (law_around x0.W x0.Other x0.Less x0.More) true).1), .int .u64 (tn (x0.V))]) (v := .bool true) (bif jmpIs (ti (16#64 * (pick16 x1))) then ((jmpR (16#64 * (pick16 x1)) x2 x0.V x0.W) == true) else false) (st_ups _ _) rfl rfl (by generalize (bif jmpIs (ti (16#64 * (pick16 x1))) then ((jmpR (16#64 * (pick16 x1)) x2 x0.V x0.W) == true) else false) = gg0; cases gg0 <;> rfl) (by intro hb; have hb74 := hid (show ((bif jmpIs (ti (16#64 * (pick16 x1))) then ((jmpR (16#64 * (pick16 x1)) x2 x0.V x0.W) == true) else false)) = true from hb); intro x hx; (try simp only [hb]); (try simp only [cond_true]); kernel_rfl) (by intro hb; have hb74 := hid (show ((bif jmpIs (ti (16#64 * (pick16 x1))) then ((jmpR (16#64 * (pick16 x1)) x2 x0.V x0.W) == true) else false)) = true from hb); intro x hx; exact calls_is (scalar_In_any ((scalar_Branch (16#64 * (pick16 x1)) x2 (law_around x0.V x0.Mask x0.Down x0.Up) (law_around x0.W x0.Other x0.Less x0.More) true).1) x0.V _) (congrArg Value.bool ((branch_has (bif_l hb74.out) HA.out.1 HB.out.1 HA.out.2 HB.out.2 (eq_of_beq (bif_r hb74.out))).fst))) ?_
  simp only [sA, sB]
  refine lin_if (i := 15) (v := .bool false) (bif jmpIs (ti (16#64 * (pick16 x1))) then ((jmpR (16#64 * (pick16 x1)) x2 x0.V x0.W) == true) else false) rfl rfl (by generalize (bif jmpIs (ti (16#64 * (pick16 x1))) then ((jmpR (16#64 * (pick16 x1)) x2 x0.V x0.W) == true) else false) = gg0; cases gg0 <;> rfl) (by intro hb; have hb75 := hid (show ((bif jmpIs (ti (16#64 * (pick16 x1))) then ((jmpR (16#64 * (pick16 x1)) x2 x0.V x0.W) == true) else false)) = true from hb); intro x hx; (try simp only [hb]); (try simp only [cond_true]); go_simp; (first | done | exact rfl)) ?_
  simp only [sA, sB]
  refine lin_if (i := 16) (v := .bool false) (bif jmpIs (ti (16#64 * (pick16 x1))) then ((jmpR (16#64 * (pick16 x1)) x2 x0.V x0.W) == true) else false) rfl rfl (by generalize (bif jmpIs (ti (16#64 * (pick16 x1))) then ((jmpR (16#64 * (pick16 x1)) x2 x0.V x0.W) == true) else false) = gg0; cases gg0 <;> rfl) (by intro hb; have hb76 := hid (show ((bif jmpIs (ti (16#64 * (pick16 x1))) then ((jmpR (16#64 * (pick16 x1)) x2 x0.V x0.W) == true) else false)) = true from hb); intro x hx; (try simp only [hb]); (try simp only [cond_true]); go_simp; (first | done | exact rfl)) ?_
  simp only [sA, sB]
  refine lin_if (i := 17) (v := .bool false) (bif jmpIs (ti (16#64 * (pick16 x1))) then ((jmpR (16#64 * (pick16 x1)) x2 x0.V x0.W) == true) else false) rfl rfl (by generalize (bif jmpIs (ti (16#64 * (pick16 x1))) then ((jmpR (16#64 * (pick16 x1)) x2 x0.V x0.W) == true) else false) = gg0; cases gg0 <;> rfl) (by intro hb; have hb77 := hid (show ((bif jmpIs (ti (16#64 * (pick16 x1))) then ((jmpR (16#64 * (pick16 x1)) x2 x0.V x0.W) == true) else false)) = true from hb); intro x hx; (try simp only [hb]); (try simp only [cond_true]); go_simp; (first | done | exact rfl)) ?_
  simp only [sA, sB]
  refine lin_if (i := 18) (v := vS ((scalar_Branch (16#64 * (pick16 x1)) x2 (law_around x0.V x0.Mask x0.Down x0.Up) (law_around x0.W x0.Other x0.Less x0.More) true).2.1)) (bif jmpIs (ti (16#64 * (pick16 x1))) then ((jmpR (16#64 * (pick16 x1)) x2 x0.V x0.W) == true) else false) rfl rfl (by generalize (bif jmpIs (ti (16#64 * (pick16 x1))) then ((jmpR (16#64 * (pick16 x1)) x2 x0.V x0.W) == true) else false) = gg0; cases gg0 <;> rfl) (by intro hb; have hb78 := hid (show ((bif jmpIs (ti (16#64 * (pick16 x1))) then ((jmpR (16#64 * (pick16 x1)) x2 x0.V x0.W) == true) else false)) = true from hb); intro x hx; (try simp only [hb]); (try simp only [cond_true]); obtain ⟨f0, f1, f2, f3, f4, f5⟩ := hx.six 7 0 rfl rfl; go_simp; (first | done | exact rfl)) ?_
  simp only [sA, sB, vS]
  refine lin_if (i := 19) (v := .pointer (some ⟨w.heap.size, 1, none⟩)) (bif jmpIs (ti (16#64 * (pick16 x1))) then ((jmpR (16#64 * (pick16 x1)) x2 x0.V x0.W) == true) else false) rfl rfl (by generalize (bif jmpIs (ti (16#64 * (pick16 x1))) then ((jmpR (16#64 * (pick16 x1)) x2 x0.V x0.W) == true) else false) = gg0; cases gg0 <;> rfl) (by intro hb; have hb79 := hid (show ((bif jmpIs (ti (16#64 * (pick16 x1))) then ((jmpR (16#64 * (pick16 x1)) x2 x0.V x0.W) == true) else false)) = true from hb); intro x hx; (try simp only [hb]); (try simp only [cond_true]); go_simp; (first | done | exact rfl)) ?_
  simp only [sA, sB]
  refine lin_if (i := 20) (v := .int .u64 (tn (x0.W))) (bif jmpIs (ti (16#64 * (pick16 x1))) then ((jmpR (16#64 * (pick16 x1)) x2 x0.V x0.W) == true) else false) rfl rfl (by generalize (bif jmpIs (ti (16#64 * (pick16 x1))) then ((jmpR (16#64 * (pick16 x1)) x2 x0.V x0.W) == true) else false) = gg0; cases gg0 <;> rfl) (by intro hb; have hb80 := hid (show ((bif jmpIs (ti (16#64 * (pick16 x1))) then ((jmpR (16#64 * (pick16 x1)) x2 x0.V x0.W) == true) else false)) = true from hb); intro x hx; (try simp only [hb]); (try simp only [cond_true]); have f0 := hx.load 0 1 rfl rfl; go_simp; (first | done | exact rfl)) ?_
  simp only [sA, sB]
  refine lin_if_call (i := 21) (f := 13) (args := #[vS ((scalar_Branch (16#64 * (pick16 x1)) x2 (law_around x0.V x0.Mask x0.Down x0.Up) (law_around x0.W x0.Other x0.Less x0.More) true).2.1), .int .u64 (tn (x0.W))]) (v := .bool true) (bif jmpIs (ti (16#64 * (pick16 x1))) then ((jmpR (16#64 * (pick16 x1)) x2 x0.V x0.W) == true) else false) (st_ups _ _) rfl rfl (by generalize (bif jmpIs (ti (16#64 * (pick16 x1))) then ((jmpR (16#64 * (pick16 x1)) x2 x0.V x0.W) == true) else false) = gg0; cases gg0 <;> rfl) (by intro hb; have hb81 := hid (show ((bif jmpIs (ti (16#64 * (pick16 x1))) then ((jmpR (16#64 * (pick16 x1)) x2 x0.V x0.W) == true) else false)) = true from hb); intro x hx; (try simp only [hb]); (try simp only [cond_true]); kernel_rfl) (by intro hb; have hb81 := hid (show ((bif jmpIs (ti (16#64 * (pick16 x1))) then ((jmpR (16#64 * (pick16 x1)) x2 x0.V x0.W) == true) else false)) = true from hb); intro x hx; exact calls_is (scalar_In_any ((scalar_Branch (16#64 * (pick16 x1)) x2 (law_around x0.V x0.Mask x0.Down x0.Up) (law_around x0.W x0.Other x0.Less x0.More) true).2.1) x0.W _) (congrArg Value.bool ((branch_has (bif_l hb81.out) HA.out.1 HB.out.1 HA.out.2 HB.out.2 (eq_of_beq (bif_r hb81.out))).snd))) ?_
  simp only [sA, sB]
  refine lin_if (i := 22) (v := .bool false) (bif jmpIs (ti (16#64 * (pick16 x1))) then ((jmpR (16#64 * (pick16 x1)) x2 x0.V x0.W) == true) else false) rfl rfl (by generalize (bif jmpIs (ti (16#64 * (pick16 x1))) then ((jmpR (16#64 * (pick16 x1)) x2 x0.V x0.W) == true) else false) = gg0; cases gg0 <;> rfl) (by intro hb; have hb82 := hid (show ((bif jmpIs (ti (16#64 * (pick16 x1))) then ((jmpR (16#64 * (pick16 x1)) x2 x0.V x0.W) == true) else false)) = true from hb); intro x hx; (try simp only [hb]); (try simp only [cond_true]); go_simp; (first | done | exact rfl)) ?_
  simp only [sA, sB]
  refine lin_if (i := 23) (v := .bool false) (bif jmpIs (ti (16#64 * (pick16 x1))) then ((jmpR (16#64 * (pick16 x1)) x2 x0.V x0.W) == true) else false) rfl rfl (by generalize (bif jmpIs (ti (16#64 * (pick16 x1))) then ((jmpR (16#64 * (pick16 x1)) x2 x0.V x0.W) == true) else false) = gg0; cases gg0 <;> rfl) (by intro hb; have hb83 := hid (show ((bif jmpIs (ti (16#64 * (pick16 x1))) then ((jmpR (16#64 * (pick16 x1)) x2 x0.V x0.W) == true) else false)) = true from hb); intro x hx; (try simp only [hb]); (try simp only [cond_true]); go_simp; (first | done | exact rfl)) ?_
  simp only [sA, sB]
  refine lv 24 (.bool false) rfl rfl (by intro x hx; (cases hq : ((bif jmpIs (ti (16#64 * (pick16 x1))) then ((jmpR (16#64 * (pick16 x1)) x2 x0.V x0.W) == true) else false)) <;> first | rfl | (simp only [hq]; rfl) | simp [hq])) ?_
  simp only [sA, sB]
  refine lm 25 123 rfl rfl rfl rfl ?_
  simp only [sA, sB]
  refine lv 26 (.bool (jmpIs (ti (16#64 * (pick16 x1))))) rfl rfl (by intro x hx; go_simp; (first | done | exact rfl)) ?_
  simp only [sA, sB]
  refine lv 27 (.bool ((!(jmpIs (ti (16#64 * (pick16 x1))))))) rfl rfl (by intro x hx; go_simp; (first | done | exact rfl)) ?_
  simp only [sA, sB]
  refine lv 28 (.bool ((!(jmpIs (ti (16#64 * (pick16 x1))))))) rfl rfl (by intro x hx; go_simp; (first | done | exact rfl)) ?_
  simp only [sA, sB]
  refine lin_if (i := 29) (v := .bool ((scalar_Branch (16#64 * (pick16 x1)) x2 (law_around x0.V x0.Mask x0.Down x0.Up) (law_around x0.W x0.Other x0.Less x0.More) true).2.2)) (!(jmpIs (ti (16#64 * (pick16 x1))))) rfl rfl (by generalize (!(jmpIs (ti (16#64 * (pick16 x1))))) = gg0; cases gg0 <;> rfl) (by intro hb; have hb84 := hid (show ((!(jmpIs (ti (16#64 * (pick16 x1)))))) = true from hb); intro x hx; (try simp only [hb]); (try simp only [cond_true]); go_simp; (first | done | exact rfl)) ?_
  simp only [sA, sB]
  refine lin_if (i := 30) (v := .bool false) (!(jmpIs (ti (16#64 * (pick16 x1))))) rfl rfl (by generalize (!(jmpIs (ti (16#64 * (pick16 x1))))) = gg0; cases gg0 <;> rfl) (by intro hb; have hb85 := hid (show ((!(jmpIs (ti (16#64 * (pick16 x1)))))) = true from hb); intro x hx; (try simp only [hb]); (try simp only [cond_true]); go_simp; (first | done | (first | exact not_t (branch_may (flip_f hb85).out) | exact eq_of_beq (not_t (branch_may (flip_f hb85).out)) | exact congrArg _ (not_t (branch_may (flip_f hb85).out)) | (rw [not_t (branch_may (flip_f hb85).out)]; done) | ((first | rfl | skip); rw [not_t (branch_may (flip_f hb85).out)]) | exact congrArg tn (eq_of_beq (not_t (branch_may (flip_f hb85).out))) | exact congrArg ti (eq_of_beq (not_t (branch_may (flip_f hb85).out))) | exact congrArg tn (eq_of_bne (not_t (branch_may (flip_f hb85).out))) | simpa using (not_t (branch_may (flip_f hb85).out))))) ?_
  simp only [sA, sB]
  refine lv 31 (.bool false) rfl rfl (by intro x hx; (cases hq : ((!(jmpIs (ti (16#64 * (pick16 x1)))))) <;> first | rfl | (simp only [hq]; rfl) | simp [hq])) ?_
  simp only [sA, sB]
  refine lv 32 (.bool false) rfl rfl (by intro x hx; go_simp; (first | done | exact rfl)) ?_
  simp only [sA, sB]
  clear HS
  refine ld fun W16 HS => ?_
  go_upto_region 16 with fail
  refine lnb HS.out rfl ?_
  refine lm 0 17 rfl rfl rfl rfl ?_
  simp only [sA, sB]
  refine lm 1 132 rfl rfl rfl rfl ?_
  simp only [sA, sB]
  refine lin_if (i := 2) (v := .bool (jmpIs (ti (16#64 * (pick16 x1))))) ((scalar_Branch (16#64 * (pick16 x1)) x2 (law_around x0.V x0.Mask x0.Down x0.Up) (law_around x0.W x0.Other x0.Less x0.More) true).2.2) rfl rfl (by generalize ((scalar_Branch (16#64 * (pick16 x1)) x2 (law_around x0.V x0.Mask x0.Down x0.Up) (law_around x0.W x0.Other x0.Less x0.More) true).2.2) = gg0; cases gg0 <;> rfl) (by intro hb; have hb86 := hid (show ((scalar_Branch (16#64 * (pick16 x1)) x2 (law_around x0.V x0.Mask x0.Down x0.Up) (law_around x0.W x0.Other x0.Less x0.More) true).2.2) = true from hb); intro x hx; (try simp only [hb]); (try simp only [cond_true]); go_simp; (first | done | exact rfl)) ?_
  simp only [sA, sB]
  refine lv 3 (.bool ((bif (scalar_Branch (16#64 * (pick16 x1)) x2 (law_around x0.V x0.Mask x0.Down x0.Up) (law_around x0.W x0.Other x0.Less x0.More) true).2.2 then jmpIs (ti (16#64 * (pick16 x1))) else false))) rfl rfl (by intro x hx; (cases hq : ((scalar_Branch (16#64 * (pick16 x1)) x2 (law_around x0.V x0.Mask x0.Down x0.Up) (law_around x0.W x0.Other x0.Less x0.More) true).2.2) <;> first | rfl | (simp only [hq]; rfl) | simp [hq])) ?_
  simp only [sA, sB]
  refine lm 4 135 rfl rfl rfl rfl ?_
  simp only [sA, sB]
  refine lin_if (i := 5) (v := vS ((scalar_Branch (16#64 * (pick16 x1)) x2 (law_around x0.V x0.Mask x0.Down x0.Up) (law_around x0.W x0.Other x0.Less x0.More) true).1)) (bif (scalar_Branch (16#64 * (pick16 x1)) x2 (law_around x0.V x0.Mask x0.Down x0.Up) (law_around x0.W x0.Other x0.Less x0.More) true).2.2 then jmpIs (ti (16#64 * (pick16 x1))) else false) rfl rfl (by generalize (bif (scalar_Branch (16#64 * (pick16 x1)) x2 (law_around x0.V x0.Mask x0.Down x0.Up) (law_around x0.W x0.Other x0.Less x0.More) true).2.2 then jmpIs (ti (16#64 * (pick16 x1))) else false) = gg0; cases gg0 <;> rfl) (by intro hb; have hb87 := hid (show ((bif (scalar_Branch (16#64 * (pick16 x1)) x2 (law_around x0.V x0.Mask x0.Down x0.Up) (law_around x0.W x0.Other x0.Less x0.More) true).2.2 then jmpIs (ti (16#64 * (pick16 x1))) else false)) = true from hb); intro x hx; (try simp only [hb]); (try simp only [cond_true]); obtain ⟨f0, f1, f2, f3, f4, f5⟩ := hx.six 6 0 rfl rfl; go_simp; (first | done | exact rfl)) ?_
  simp only [sA, sB, vS]
  refine lin_if (i := 6) (v := vS (law_around x0.V x0.Mask x0.Down x0.Up)) (bif (scalar_Branch (16#64 * (pick16 x1)) x2 (law_around x0.V x0.Mask x0.Down x0.Up) (law_around x0.W x0.Other x0.Less x0.More) true).2.2 then jmpIs (ti (16#64 * (pick16 x1))) else false) rfl rfl (by generalize (bif (scalar_Branch (16#64 * (pick16 x1)) x2 (law_around x0.V x0.Mask x0.Down x0.Up) (law_around x0.W x0.Other x0.Less x0.More) true).2.2 then jmpIs (ti (16#64 * (pick16 x1))) else false) = gg0; cases gg0 <;> rfl) (by intro hb; have hb88 := hid (show ((bif (scalar_Branch (16#64 * (pick16 x1)) x2 (law_around x0.V x0.Mask x0.Down x0.Up) (law_around x0.W x0.Other x0.Less x0.More) true).2.2 then jmpIs (ti (16#64 * (pick16 x1))) else false)) = true from hb); intro x hx; (try simp only [hb]); (try simp only [cond_true]); obtain ⟨f0, f1, f2, f3, f4, f5⟩ := hx.six 1 0 rfl rfl; go_simp; (first | done | exact rfl)) ?_
  simp only [sA, sB, vS]
  refine lin_if_call (i := 7) (f := 15) (args := #[vS ((scalar_Branch (16#64 * (pick16 x1)) x2 (law_around x0.V x0.Mask x0.Down x0.Up) (law_around x0.W x0.Other x0.Less x0.More) true).1), vS (law_around x0.V x0.Mask x0.Down x0.Up)]) (v := .bool true) (bif (scalar_Branch (16#64 * (pick16 x1)) x2 (law_around x0.V x0.Mask x0.Down x0.Up) (law_around x0.W x0.Other x0.Less x0.More) true).2.2 then jmpIs (ti (16#64 * (pick16 x1))) else false) (st_ups _ _) rfl rfl (by generalize (bif (scalar_Branch (16#64 * (pick16 x1)) x2 (law_around x0.V x0.Mask x0.Down x0.Up) (law_around x0.W x0.Other x0.Less x0.More) true).2.2 then jmpIs (ti (16#64 * (pick16 x1))) else false) = gg0; cases gg0 <;> rfl) (by intro hb; have hb89 := hid (show ((bif (scalar_Branch (16#64 * (pick16 x1)) x2 (law_around x0.V x0.Mask x0.Down x0.Up) (law_around x0.W x0.Other x0.Less x0.More) true).2.2 then jmpIs (ti (16#64 * (pick16 x1))) else false)) = true from hb); intro x hx; (try simp only [hb]); (try simp only [cond_true]); kernel_rfl) (by intro hb; have hb89 := hid (show ((bif (scalar_Branch (16#64 * (pick16 x1)) x2 (law_around x0.V x0.Mask x0.Down x0.Up) (law_around x0.W x0.Other x0.Less x0.More) true).2.2 then jmpIs (ti (16#64 * (pick16 x1))) else false)) = true from hb); intro x hx; exact calls_is (scalar_Within_any ((scalar_Branch (16#64 * (pick16 x1)) x2 (law_around x0.V x0.Mask x0.Down x0.Up) (law_around x0.W x0.Other x0.Less x0.More) true).1) (law_around x0.V x0.Mask x0.Down x0.Up) _) (congrArg Value.bool ((branch_sub HA.out.1 HB.out.1 HA.out.2 HB.out.2 (bif_l hb89.out)).1))) ?_
  simp only [sA, sB]
  refine lin_if (i := 8) (v := .bool false) (bif (scalar_Branch (16#64 * (pick16 x1)) x2 (law_around x0.V x0.Mask x0.Down x0.Up) (law_around x0.W x0.Other x0.Less x0.More) true).2.2 then jmpIs (ti (16#64 * (pick16 x1))) else false) rfl rfl (by generalize (bif (scalar_Branch (16#64 * (pick16 x1)) x2 (law_around x0.V x0.Mask x0.Down x0.Up) (law_around x0.W x0.Other x0.Less x0.More) true).2.2 then jmpIs (ti (16#64 * (pick16 x1))) else false) = gg0; cases gg0 <;> rfl) (by intro hb; have hb90 := hid (show ((bif (scalar_Branch (16#64 * (pick16 x1)) x2 (law_around x0.V x0.Mask x0.Down x0.Up) (law_around x0.W x0.Other x0.Less x0.More) true).2.2 then jmpIs (ti (16#64 * (pick16 x1))) else false)) = true from hb); intro x hx; (try simp only [hb]); (try simp only [cond_true]); go_simp; (first | done | exact rfl)) ?_
  simp only [sA, sB]
  refine lin_if (i := 9) (v := .bool false) (bif (scalar_Branch (16#64 * (pick16 x1)) x2 (law_around x0.V x0.Mask x0.Down x0.Up) (law_around x0.W x0.Other x0.Less x0.More) true).2.2 then jmpIs (ti (16#64 * (pick16 x1))) else false) rfl rfl (by generalize (bif (scalar_Branch (16#64 * (pick16 x1)) x2 (law_around x0.V x0.Mask x0.Down x0.Up) (law_around x0.W x0.Other x0.Less x0.More) true).2.2 then jmpIs (ti (16#64 * (pick16 x1))) else false) = gg0; cases gg0 <;> rfl) (by intro hb; have hb91 := hid (show ((bif (scalar_Branch (16#64 * (pick16 x1)) x2 (law_around x0.V x0.Mask x0.Down x0.Up) (law_around x0.W x0.Other x0.Less x0.More) true).2.2 then jmpIs (ti (16#64 * (pick16 x1))) else false)) = true from hb); intro x hx; (try simp only [hb]); (try simp only [cond_true]); go_simp; (first | done | exact rfl)) ?_
  simp only [sA, sB]
  refine lin_if (i := 10) (v := vS ((scalar_Branch (16#64 * (pick16 x1)) x2 (law_around x0.V x0.Mask x0.Down x0.Up) (law_around x0.W x0.Other x0.Less x0.More) true).2.1)) (bif (scalar_Branch (16#64 * (pick16 x1)) x2 (law_around x0.V x0.Mask x0.Down x0.Up) (law_around x0.W x0.Other x0.Less x0.More) true).2.2 then jmpIs (ti (16#64 * (pick16 x1))) else false) rfl rfl (by generalize (bif (scalar_Branch (16#64 * (pick16 x1)) x2 (law_around x0.V x0.Mask x0.Down x0.Up) (law_around x0.W x0.Other x0.Less x0.More) true).2.2 then jmpIs (ti (16#64 * (pick16 x1))) else false) = gg0; cases gg0 <;> rfl) (by intro hb; have hb92 := hid (show ((bif (scalar_Branch (16#64 * (pick16 x1)) x2 (law_around x0.V x0.Mask x0.Down x0.Up) (law_around x0.W x0.Other x0.Less x0.More) true).2.2 then jmpIs (ti (16#64 * (pick16 x1))) else false)) = true from hb); intro x hx; (try simp only [hb]); (try simp only [cond_true]); obtain ⟨f0, f1, f2, f3, f4, f5⟩ := hx.six 7 0 rfl rfl; go_simp; (first | done | exact rfl)) ?_
  simp only [sA, sB, vS]
  refine lin_if (i := 11) (v := vS (law_around x0.W x0.Other x0.Less x0.More)) (bif (scalar_Branch (16#64 * (pick16 x1)) x2 (law_around x0.V x0.Mask x0.Down x0.Up) (law_around x0.W x0.Other x0.Less x0.More) true).2.2 then jmpIs (ti (16#64 * (pick16 x1))) else false) rfl rfl (by generalize (bif (scalar_Branch (16#64 * (pick16 x1)) x2 (law_around x0.V x0.Mask x0.Down x0.Up) (law_around x0.W x0.Other x0.Less x0.More) true).2.2 then jmpIs (ti (16#64 * (pick16 x1))) else false) = gg0; cases gg0 <;> rfl) (by intro hb; have hb93 := hid (show ((bif (scalar_Branch (16#64 * (pick16 x1)) x2 (law_around x0.V x0.Mask x0.Down x0.Up) (law_around x0.W x0.Other x0.Less x0.More) true).2.2 then jmpIs (ti (16#64 * (pick16 x1))) else false)) = true from hb); intro x hx; (try simp only [hb]); (try simp only [cond_true]); obtain ⟨f0, f1, f2, f3, f4, f5⟩ := hx.six 2 0 rfl rfl; go_simp; (first | done | exact rfl)) ?_
  simp only [sA, sB, vS]
  refine lin_if_call (i := 12) (f := 15) (args := #[vS ((scalar_Branch (16#64 * (pick16 x1)) x2 (law_around x0.V x0.Mask x0.Down x0.Up) (law_around x0.W x0.Other x0.Less x0.More) true).2.1), vS (law_around x0.W x0.Other x0.Less x0.More)]) (v := .bool true) (bif (scalar_Branch (16#64 * (pick16 x1)) x2 (law_around x0.V x0.Mask x0.Down x0.Up) (law_around x0.W x0.Other x0.Less x0.More) true).2.2 then jmpIs (ti (16#64 * (pick16 x1))) else false) (st_ups _ _) rfl rfl (by generalize (bif (scalar_Branch (16#64 * (pick16 x1)) x2 (law_around x0.V x0.Mask x0.Down x0.Up) (law_around x0.W x0.Other x0.Less x0.More) true).2.2 then jmpIs (ti (16#64 * (pick16 x1))) else false) = gg0; cases gg0 <;> rfl) (by intro hb; have hb94 := hid (show ((bif (scalar_Branch (16#64 * (pick16 x1)) x2 (law_around x0.V x0.Mask x0.Down x0.Up) (law_around x0.W x0.Other x0.Less x0.More) true).2.2 then jmpIs (ti (16#64 * (pick16 x1))) else false)) = true from hb); intro x hx; (try simp only [hb]); (try simp only [cond_true]); kernel_rfl) (by intro hb; have hb94 := hid (show ((bif (scalar_Branch (16#64 * (pick16 x1)) x2 (law_around x0.V x0.Mask x0.Down x0.Up) (law_around x0.W x0.Other x0.Less x0.More) true).2.2 then jmpIs (ti (16#64 * (pick16 x1))) else false)) = true from hb); intro x hx; exact calls_is (scalar_Within_any ((scalar_Branch (16#64 * (pick16 x1)) x2 (law_around x0.V x0.Mask x0.Down x0.Up) (law_around x0.W x0.Other x0.Less x0.More) true).2.1) (law_around x0.W x0.Other x0.Less x0.More) _) (congrArg Value.bool ((branch_sub HA.out.1 HB.out.1 HA.out.2 HB.out.2 (bif_l hb94.out)).2))) ?_
  simp only [sA, sB]
  refine lin_if (i := 13) (v := .bool false) (bif (scalar_Branch (16#64 * (pick16 x1)) x2 (law_around x0.V x0.Mask x0.Down x0.Up) (law_around x0.W x0.Other x0.Less x0.More) true).2.2 then jmpIs (ti (16#64 * (pick16 x1))) else false) rfl rfl (by generalize (bif (scalar_Branch (16#64 * (pick16 x1)) x2 (law_around x0.V x0.Mask x0.Down x0.Up) (law_around x0.W x0.Other x0.Less x0.More) true).2.2 then jmpIs (ti (16#64 * (pick16 x1))) else false) = gg0; cases gg0 <;> rfl) (by intro hb; have hb95 := hid (show ((bif (scalar_Branch (16#64 * (pick16 x1)) x2 (law_around x0.V x0.Mask x0.Down x0.Up) (law_around x0.W x0.Other x0.Less x0.More) true).2.2 then jmpIs (ti (16#64 * (pick16 x1))) else false)) = true from hb); intro x hx; (try simp only [hb]); (try simp only [cond_true]); go_simp; (first | done | exact rfl)) ?_
  simp only [sA, sB]
  refine lin_if (i := 14) (v := .bool false) (bif (scalar_Branch (16#64 * (pick16 x1)) x2 (law_around x0.V x0.Mask x0.Down x0.Up) (law_around x0.W x0.Other x0.Less x0.More) true).2.2 then jmpIs (ti (16#64 * (pick16 x1))) else false) rfl rfl (by generalize (bif (scalar_Branch (16#64 * (pick16 x1)) x2 (law_around x0.V x0.Mask x0.Down x0.Up) (law_around x0.W x0.Other x0.Less x0.More) true).2.2 then jmpIs (ti (16#64 * (pick16 x1))) else false) = gg0; cases gg0 <;> rfl) (by intro hb; have hb96 := hid (show ((bif (scalar_Branch (16#64 * (pick16 x1)) x2 (law_around x0.V x0.Mask x0.Down x0.Up) (law_around x0.W x0.Other x0.Less x0.More) true).2.2 then jmpIs (ti (16#64 * (pick16 x1))) else false)) = true from hb); intro x hx; (try simp only [hb]); (try simp only [cond_true]); go_simp; (first | done | exact rfl)) ?_
  simp only [sA, sB]
  refine lv 15 (.bool false) rfl rfl (by intro x hx; (cases hq : ((bif (scalar_Branch (16#64 * (pick16 x1)) x2 (law_around x0.V x0.Mask x0.Down x0.Up) (law_around x0.W x0.Other x0.Less x0.More) true).2.2 then jmpIs (ti (16#64 * (pick16 x1))) else false)) <;> first | rfl | (simp only [hq]; rfl) | simp [hq])) ?_
  simp only [sA, sB]
  clear HS
  refine ld fun W17 HS => ?_
  go_upto_region 12 with fail
  refine lnb HS.out rfl ?_
  refine lm 0 14 rfl rfl rfl rfl ?_
  simp only [sA, sB]
  refine lv 1 (.int .i64 2) rfl rfl (by intro x hx; go_simp; (first | done | exact rfl)) ?_
  simp only [sA, sB]
  refine la 2 87 rfl rfl rfl rfl ?_
  simp only [sA, sB]
  clear HS
  refine ld fun W18 HS => ?_
  go_wp2
  rw [rounds_succ]
  go_upto_region 11 with fail
  refine lnb HS.out rfl ?_
  refine lm 0 14 rfl rfl rfl rfl ?_
  simp only [sA, sB]
  refine lv 1 (.bool false) rfl rfl (by intro x hx; go_simp; (first | done | exact rfl)) ?_
  simp only [sA, sB]
  clear HS
  refine ld fun W19 HS => ?_
  go_upto_region 18 with fail
  refine upb 10 (HS.out.drew) rfl ?_
  refine tv 0 (vS (law_around x0.V x0.Mask x0.Down x0.Up)) rfl rfl (by intro x hx; obtain ⟨f0, f1, f2, f3, f4, f5⟩ := hx.six 1 0 rfl rfl; go_simp; (first | done | exact rfl)) ?_
  simp only [sA, sB, vS]
  refine tc 1 17 #[vS (law_around x0.V x0.Mask x0.Down x0.Up)] (vS (scalar_Low (law_around x0.V x0.Mask x0.Down x0.Up))) rfl rfl (by intro x hx; exact scalar_Low_any (law_around x0.V x0.Mask x0.Down x0.Up) _) ?_
  simp only [sA, sB, vS]
  refine tv 2 (.pointer (some ⟨w.heap.size, 0, none⟩)) rfl rfl (by intro x hx; go_simp; (first | done | exact rfl)) ?_
  simp only [sA, sB]
  refine tv 3 (.int .u64 (tn (x0.V))) rfl rfl (by intro x hx; have f0 := hx.load 0 0 rfl rfl; go_simp; (first | done | exact rfl)) ?_
  simp only [sA, sB]
  refine tv 4 (.int .u64 (tn (x0.V % 4294967296#64))) rfl rfl (by intro x hx; go_simp; (first | done | exact remUT x0.V 4294967296#64 | exact congrArg _ (remUT x0.V 4294967296#64) | (rw [remUT x0.V 4294967296#64]; done) | (rw [remUT x0.V 4294967296#64]; rfl))) ?_
  simp only [sA, sB]
  refine tc 5 13 #[vS (scalar_Low (law_around x0.V x0.Mask x0.Down x0.Up)), .int .u64 (tn (x0.V % 4294967296#64))] (.bool true) rfl rfl (by intro x hx; exact calls_is (scalar_In_any (scalar_Low (law_around x0.V x0.Mask x0.Down x0.Up)) (x0.V % 4294967296#64) _) (congrArg Value.bool (low_mod HA.out.2))) ?_
  simp only [sA, sB]
  refine tm 6 153 rfl rfl rfl rfl ?_
  simp only [sA, sB]
  refine tc 7 8 #[] (.bool true) rfl rfl (by intro x hx; exact law_works_any _ (HT.out.up hx.below)) ?_
  simp only [sA, sB]
  refine tv 8 (.bool true) rfl rfl (by intro x hx; go_simp; (first | done | exact rfl)) ?_
  simp only [sA, sB]
  refine ta 9 156 rfl rfl rfl rfl ?_
  simp only [sA, sB]
  clear HS
  refine td fun W20 HS => ?_
  go_wp2
  exact bodyPost_ret (v := .bool true) (by simp [results, Tryz.results4, go_sem]) rfl ⟨rfl, HS.out.below⟩
end Go.Proofs.YtdjgjeffdjjbiaaGreatDoor.Sp
