/-
  The walk of the law ScalarSettled.
-/
import Derived.Deep.DeepCutAuto
import Derived.Test.YtdjgjeffdjjbiaaGreatDoorScJ
import Derived.Test.YtdjgjeffdjjbiaaGreatDoorScN
namespace Go.Proofs.YtdjgjeffdjjbiaaGreatDoor.Sp
open Go.RowKit Go.Proofs.YtdjgjeffdjjbiaaGreatDoor.Num Go.Proofs.YtdjgjeffdjjbiaaGreatDoor.Up
set_option maxRecDepth 100000 in
set_option maxHeartbeats 8000000 in
theorem scalarSettled (x0 : Pr) (x1 : Sc)   (w : World) (hT : Tn.Tab w) :
    Calls Tryz.prog 5 #[.agg #[.int .u64 (tn (x0.V)), .int .u64 (tn (x0.W)), .int .u64 (tn (x0.Mask)), .int .u64 (tn (x0.Other)), .int .u64 (tn (x0.Down)), .int .u64 (tn (x0.Up)), .int .u64 (tn (x0.Less)), .int .u64 (tn (x0.More))], vS x1] w fun e w' => e = .returned (.bool true) ∧ Below w.heap.size w w' := by
  have HT := hid hT
  clear hT
  simp only [vS]
  have HA := hid (around_in x0.V x0.Mask x0.Down x0.Up)
  go_enter Tryz.func5, Tryz.ntmps5
  have HS : Hid (St w [⟨w.heap.size, [some (.int .u64 (tn (x0.V))), some (.int .u64 (tn (x0.W))), some (.int .u64 (tn (x0.Mask))), some (.int .u64 (tn (x0.Other))), some (.int .u64 (tn (x0.Down))), some (.int .u64 (tn (x0.Up))), some (.int .u64 (tn (x0.Less))), some (.int .u64 (tn (x0.More)))], 43⟩, ⟨w.heap.size + 1, [some (.int .u64 (tn (x1.t.lo))), some (.int .u64 (tn (x1.t.hi))), some (.int .u64 (tn (x1.u.lo))), some (.int .u64 (tn (x1.u.hi))), some (.int .i64 (ti (x1.s.lo))), some (.int .i64 (ti (x1.s.hi)))], 30⟩] _) := hid (((st_nil w).alloc (k := w.heap.size) rfl [.int .u64 (tn (x0.V)), .int .u64 (tn (x0.W)), .int .u64 (tn (x0.Mask)), .int .u64 (tn (x0.Other)), .int .u64 (tn (x0.Down)), .int .u64 (tn (x0.Up)), .int .u64 (tn (x0.Less)), .int .u64 (tn (x0.More))] 43).alloc (k := w.heap.size + 1) (by simp) [.int .u64 (tn (x1.t.lo)), .int .u64 (tn (x1.t.hi)), .int .u64 (tn (x1.u.lo)), .int .u64 (tn (x1.u.hi)), .int .i64 (ti (x1.s.lo)), .int .i64 (ti (x1.s.hi))] 30)
  go_upto_region 1 with fail
  refine lnb HS.out rfl ?_
  refine lv 0 (.agg #[.int .u64 (tn (x0.V)), .int .u64 (tn (x0.W)), .int .u64 (tn (x0.Mask)), .int .u64 (tn (x0.Other)), .int .u64 (tn (x0.Down)), .int .u64 (tn (x0.Up)), .int .u64 (tn (x0.Less)), .int .u64 (tn (x0.More))]) rfl rfl (by intro x hx; have f0 := hx.load 0 0 rfl rfl; have f1 := hx.load 0 1 rfl rfl; have f2 := hx.load 0 2 rfl rfl; have f3 := hx.load 0 3 rfl rfl; have f4 := hx.load 0 4 rfl rfl; have f5 := hx.load 0 5 rfl rfl; have f6 := hx.load 0 6 rfl rfl; have f7 := hx.load 0 7 rfl rfl; go_simp; (first | done | exact rfl)) ?_
  simp only [sA, sB]
  refine lc 1 21 #[.agg #[.int .u64 (tn (x0.V)), .int .u64 (tn (x0.W)), .int .u64 (tn (x0.Mask)), .int .u64 (tn (x0.Other)), .int .u64 (tn (x0.Down)), .int .u64 (tn (x0.Up)), .int .u64 (tn (x0.Less)), .int .u64 (tn (x0.More))]] (.tuple #[vS (law_around x0.V x0.Mask x0.Down x0.Up), vS (law_around x0.W x0.Other x0.Less x0.More)]) rfl rfl (by intro x hx; exact law_scalars_any x0 _) ?_
  simp only [sA, sB, vS]
  refine lm 2 13 rfl rfl rfl rfl ?_
  simp only [sA, sB]
  refine lv 3 (vS (law_around x0.V x0.Mask x0.Down x0.Up)) rfl rfl (by intro x hx; go_simp; (first | done | exact rfl)) ?_
  simp only [sA, sB, vS]
  refine lv 4 (vS (law_around x0.W x0.Other x0.Less x0.More)) rfl rfl (by intro x hx; go_simp; (first | done | exact rfl)) ?_
  simp only [sA, sB, vS]
  refine lin_new (i := 5) rfl rfl (by rfl) [.int .u64 0, .int .u64 0, .int .u64 0, .int .u64 0, .int .i64 0, .int .i64 0] 30 (fun k => .pointer (some ⟨k, 0, none⟩)) [some (.int .u64 0), some (.int .u64 0), some (.int .u64 0), some (.int .u64 0), some (.int .i64 0), some (.int .i64 0)] (lessC_refl _) (by intro x hx; go_simp; (first | done | exact rfl)) (fun k1 => ?_)
  simp only [sA, sB, sC, sD]
  refine lin_new (i := 6) rfl rfl (by rfl) [.int .u64 0, .int .u64 0, .int .u64 0, .int .u64 0, .int .i64 0, .int .i64 0] 30 (fun k => .pointer (some ⟨k, 0, none⟩)) [some (.int .u64 0), some (.int .u64 0), some (.int .u64 0), some (.int .u64 0), some (.int .i64 0), some (.int .i64 0)] (lessC_refl _) (by intro x hx; go_simp; (first | done | exact rfl)) (fun k2 => ?_)
  simp only [sA, sB, sC, sD]
  refine ls 7 2 0 (cS (law_around x0.V x0.Mask x0.Down x0.Up)) rfl rfl rfl (by intro x hx; obtain ⟨⟨_, z0, q0⟩, ⟨_, z1, q1⟩, ⟨_, z2, q2⟩, ⟨_, z3, q3⟩, ⟨_, z4, q4⟩, ⟨_, z5, q5⟩⟩ := hx.at6 2 0 rfl; go_simp; (first | done | rfl)) ?_
  simp only [Blk.putC, setM, cS, sA, sB]
  refine ls 8 3 0 (cS (law_around x0.W x0.Other x0.Less x0.More)) rfl rfl rfl (by intro x hx; obtain ⟨⟨_, z0, q0⟩, ⟨_, z1, q1⟩, ⟨_, z2, q2⟩, ⟨_, z3, q3⟩, ⟨_, z4, q4⟩, ⟨_, z5, q5⟩⟩ := hx.at6 3 0 rfl; go_simp; (first | done | rfl)) ?_
  simp only [Blk.putC, setM, cS, sA, sB]
  clear HS
  refine ld fun W1 HS => ?_
  go_upto_region 2 with fail
  refine lnb HS.out rfl ?_
  refine lv 0 (vS (law_around x0.V x0.Mask x0.Down x0.Up)) rfl rfl (by intro x hx; obtain ⟨f0, f1, f2, f3, f4, f5⟩ := hx.six 2 0 rfl rfl; go_simp; (first | done | exact rfl)) ?_
  simp only [sA, sB, vS]
  refine lc 1 9 #[vS (law_around x0.V x0.Mask x0.Down x0.Up)] (.tuple #[vS ((scalar_Norm (law_around x0.V x0.Mask x0.Down x0.Up)).1), .bool ((scalar_Norm (law_around x0.V x0.Mask x0.Down x0.Up)).2)]) rfl rfl (by intro x hx; exact scalar_Norm_any (law_around x0.V x0.Mask x0.Down x0.Up) _) ?_
  simp only [sA, sB, vS]
  refine lm 2 18 rfl rfl rfl rfl ?_
  simp only [sA, sB]
  refine lv 3 (vS ((scalar_Norm (law_around x0.V x0.Mask x0.Down x0.Up)).1)) rfl rfl (by intro x hx; go_simp; (first | done | exact rfl)) ?_
  simp only [sA, sB, vS]
  refine lv 4 (.bool ((scalar_Norm (law_around x0.V x0.Mask x0.Down x0.Up)).2)) rfl rfl (by intro x hx; go_simp; (first | done | exact rfl)) ?_
  simp only [sA, sB]
  refine lin_new (i := 5) rfl rfl (by rfl) [.int .u64 0, .int .u64 0, .int .u64 0, .int .u64 0, .int .i64 0, .int .i64 0] 30 (fun k => .pointer (some ⟨k, 0, none⟩)) [some (.int .u64 0), some (.int .u64 0), some (.int .u64 0), some (.int .u64 0), some (.int .i64 0), some (.int .i64 0)] (lessC_refl _) (by intro x hx; go_simp; (first | done | exact rfl)) (fun k3 => ?_)
  simp only [sA, sB, sC, sD]
  refine ls 6 4 0 (cS ((scalar_Norm (law_around x0.V x0.Mask x0.Down x0.Up)).1)) rfl rfl rfl (by intro x hx; obtain ⟨⟨_, z0, q0⟩, ⟨_, z1, q1⟩, ⟨_, z2, q2⟩, ⟨_, z3, q3⟩, ⟨_, z4, q4⟩, ⟨_, z5, q5⟩⟩ := hx.at6 4 0 rfl; go_simp; (first | done | rfl)) ?_
  simp only [Blk.putC, setM, cS, sA, sB]
  refine la 7 20 rfl rfl rfl rfl ?_
  simp only [sA, sB]
  clear HS
  refine ld fun W2 HS => ?_
  go_upto_region 3 with fail
  refine upb 25 (HS.out.drew) rfl ?_
  refine tm 0 8 rfl rfl rfl rfl ?_
  simp only [sA, sB]
  refine tv 1 (.bool false) rfl rfl (by intro x hx; go_simp; (first | done | (first | exact not_t (norm_in HA.out.1 HA.out.2).1 | exact eq_of_beq (not_t (norm_in HA.out.1 HA.out.2).1) | exact congrArg _ (not_t (norm_in HA.out.1 HA.out.2).1) | (rw [not_t (norm_in HA.out.1 HA.out.2).1]; done) | ((first | rfl | skip); rw [not_t (norm_in HA.out.1 HA.out.2).1]) | exact congrArg tn (eq_of_beq (not_t (norm_in HA.out.1 HA.out.2).1)) | exact congrArg ti (eq_of_beq (not_t (norm_in HA.out.1 HA.out.2).1)) | exact congrArg tn (eq_of_bne (not_t (norm_in HA.out.1 HA.out.2).1)) | simpa using (not_t (norm_in HA.out.1 HA.out.2).1)))) ?_
  simp only [sA, sB]
  refine tm 2 22 rfl rfl rfl rfl ?_
  simp only [sA, sB]
  refine tv 3 (vS ((scalar_Norm (law_around x0.V x0.Mask x0.Down x0.Up)).1)) rfl rfl (by intro x hx; obtain ⟨f0, f1, f2, f3, f4, f5⟩ := hx.six 4 0 rfl rfl; go_simp; (first | done | exact rfl)) ?_
  simp only [sA, sB, vS]
  refine tv 4 (vS (law_around x0.V x0.Mask x0.Down x0.Up)) rfl rfl (by intro x hx; obtain ⟨f0, f1, f2, f3, f4, f5⟩ := hx.six 2 0 rfl rfl; go_simp; (first | done | exact rfl)) ?_
  simp only [sA, sB, vS]
  refine tc 5 15 #[vS ((scalar_Norm (law_around x0.V x0.Mask x0.Down x0.Up)).1), vS (law_around x0.V x0.Mask x0.Down x0.Up)] (.bool true) rfl rfl (by intro x hx; exact calls_is (scalar_Within_any ((scalar_Norm (law_around x0.V x0.Mask x0.Down x0.Up)).1) (law_around x0.V x0.Mask x0.Down x0.Up) _) (congrArg Value.bool (step_norm.sub _ (norm_in HA.out.1 HA.out.2).1))) ?_
  simp only [sA, sB]
  refine tv 6 (.bool false) rfl rfl (by intro x hx; go_simp; (first | done | exact rfl)) ?_
  simp only [sA, sB]
  refine tv 7 (.bool false) rfl rfl (by intro x hx; go_simp; (first | done | exact rfl)) ?_
  simp only [sA, sB]
  refine tm 8 28 rfl rfl rfl rfl ?_
  simp only [sA, sB]
  refine tv 9 (vS ((scalar_Norm (law_around x0.V x0.Mask x0.Down x0.Up)).1)) rfl rfl (by intro x hx; obtain ⟨f0, f1, f2, f3, f4, f5⟩ := hx.six 4 0 rfl rfl; go_simp; (first | done | exact rfl)) ?_
  simp only [sA, sB, vS]
  refine tv 10 (.pointer (some ⟨w.heap.size, 1, none⟩)) rfl rfl (by intro x hx; go_simp; (first | done | exact rfl)) ?_
  simp only [sA, sB]
  refine tv 11 (.int .u64 (tn (x0.W))) rfl rfl (by intro x hx; have f0 := hx.load 0 1 rfl rfl; go_simp; (first | done | exact rfl)) ?_
  simp only [sA, sB]
  refine tc 12 13 #[vS ((scalar_Norm (law_around x0.V x0.Mask x0.Down x0.Up)).1), .int .u64 (tn (x0.W))] (.bool (scalar_In ((scalar_Norm (law_around x0.V x0.Mask x0.Down x0.Up)).1) x0.W)) rfl rfl (by intro x hx; exact scalar_In_any ((scalar_Norm (law_around x0.V x0.Mask x0.Down x0.Up)).1) x0.W _) ?_
  simp only [sA, sB]
  refine tv 13 (vS (law_around x0.V x0.Mask x0.Down x0.Up)) rfl rfl (by intro x hx; obtain ⟨f0, f1, f2, f3, f4, f5⟩ := hx.six 2 0 rfl rfl; go_simp; (first | done | exact rfl)) ?_
  simp only [sA, sB, vS]
  refine tv 14 (.pointer (some ⟨w.heap.size, 1, none⟩)) rfl rfl (by intro x hx; go_simp; (first | done | exact rfl)) ?_
  simp only [sA, sB]
  refine tv 15 (.int .u64 (tn (x0.W))) rfl rfl (by intro x hx; have f0 := hx.load 0 1 rfl rfl; go_simp; (first | done | exact rfl)) ?_
  simp only [sA, sB]
  refine tc 16 13 #[vS (law_around x0.V x0.Mask x0.Down x0.Up), .int .u64 (tn (x0.W))] (.bool (scalar_In (law_around x0.V x0.Mask x0.Down x0.Up) x0.W)) rfl rfl (by intro x hx; exact scalar_In_any (law_around x0.V x0.Mask x0.Down x0.Up) x0.W _) ?_
  simp only [sA, sB]
  refine tv 17 (.bool false) rfl rfl (by intro x hx; go_simp; (first | done | (first | exact nb_f (norm_eq HA.out.1 (norm_in HA.out.1 HA.out.2).1) | exact eq_of_beq (nb_f (norm_eq HA.out.1 (norm_in HA.out.1 HA.out.2).1)) | exact congrArg _ (nb_f (norm_eq HA.out.1 (norm_in HA.out.1 HA.out.2).1)) | (rw [nb_f (norm_eq HA.out.1 (norm_in HA.out.1 HA.out.2).1)]; done) | ((first | rfl | exact neB (scalar_In ((scalar_Norm (law_around x0.V x0.Mask x0.Down x0.Up)).1) x0.W) (scalar_In (law_around x0.V x0.Mask x0.Down x0.Up) x0.W) | exact congrArg _ (neB (scalar_In ((scalar_Norm (law_around x0.V x0.Mask x0.Down x0.Up)).1) x0.W) (scalar_In (law_around x0.V x0.Mask x0.Down x0.Up) x0.W)) | (rw [neB (scalar_In ((scalar_Norm (law_around x0.V x0.Mask x0.Down x0.Up)).1) x0.W) (scalar_In (law_around x0.V x0.Mask x0.Down x0.Up) x0.W)]; done) | (rw [neB (scalar_In ((scalar_Norm (law_around x0.V x0.Mask x0.Down x0.Up)).1) x0.W) (scalar_In (law_around x0.V x0.Mask x0.Down x0.Up) x0.W)]; rfl)); rw [nb_f (norm_eq HA.out.1 (norm_in HA.out.1 HA.out.2).1)]) | exact congrArg tn (eq_of_beq (nb_f (norm_eq HA.out.1 (norm_in HA.out.1 HA.out.2).1))) | exact congrArg ti (eq_of_beq (nb_f (norm_eq HA.out.1 (norm_in HA.out.1 HA.out.2).1))) | exact congrArg tn (eq_of_bne (nb_f (norm_eq HA.out.1 (norm_in HA.out.1 HA.out.2).1))) | simpa using (nb_f (norm_eq HA.out.1 (norm_in HA.out.1 HA.out.2).1))))) ?_
  simp only [sA, sB]
  refine tv 18 (.bool false) rfl rfl (by intro x hx; go_simp; (first | done | exact rfl)) ?_
  simp only [sA, sB]
  refine tm 19 39 rfl rfl rfl rfl ?_
  simp only [sA, sB]
  refine tv 20 (vS (law_around x0.V x0.Mask x0.Down x0.Up)) rfl rfl (by intro x hx; obtain ⟨f0, f1, f2, f3, f4, f5⟩ := hx.six 2 0 rfl rfl; go_simp; (first | done | exact rfl)) ?_
  simp only [sA, sB, vS]
  refine tc 21 25 #[] (vS scalar_All) rfl rfl (by intro x hx; exact scalar_All_any _) ?_
  simp only [sA, sB, vS]
  refine tc 22 15 #[vS (law_around x0.V x0.Mask x0.Down x0.Up), vS scalar_All] (.bool true) rfl rfl (by intro x hx; exact calls_is (scalar_Within_any (law_around x0.V x0.Mask x0.Down x0.Up) scalar_All _) (congrArg Value.bool (sub_all _))) ?_
  simp only [sA, sB]
  refine tv 23 (.bool false) rfl rfl (by intro x hx; go_simp; (first | done | exact rfl)) ?_
  simp only [sA, sB]
  refine tv 24 (.bool false) rfl rfl (by intro x hx; go_simp; (first | done | exact rfl)) ?_
  simp only [sA, sB]
  clear HS
  refine td fun W3 HS => ?_
  go_upto_region 5 with fail
  refine upb 33 (HS.out.drew) rfl ?_
  refine tv 0 (vS (law_around x0.V x0.Mask x0.Down x0.Up)) rfl rfl (by intro x hx; obtain ⟨f0, f1, f2, f3, f4, f5⟩ := hx.six 2 0 rfl rfl; go_simp; (first | done | exact rfl)) ?_
  simp only [sA, sB, vS]
  refine tv 1 (vS (law_around x0.W x0.Other x0.Less x0.More)) rfl rfl (by intro x hx; obtain ⟨f0, f1, f2, f3, f4, f5⟩ := hx.six 3 0 rfl rfl; go_simp; (first | done | exact rfl)) ?_
  simp only [sA, sB, vS]
  refine tc 2 15 #[vS (law_around x0.V x0.Mask x0.Down x0.Up), vS (law_around x0.W x0.Other x0.Less x0.More)] (.bool (scalar_Within (law_around x0.V x0.Mask x0.Down x0.Up) (law_around x0.W x0.Other x0.Less x0.More))) rfl rfl (by intro x hx; exact scalar_Within_any (law_around x0.V x0.Mask x0.Down x0.Up) (law_around x0.W x0.Other x0.Less x0.More) _) ?_
  simp only [sA, sB]
  refine tm 3 48 rfl rfl rfl rfl ?_
  simp only [sA, sB]
  refine take_if (i := 4) (v := vS (law_around x0.W x0.Other x0.Less x0.More)) (scalar_Within (law_around x0.V x0.Mask x0.Down x0.Up) (law_around x0.W x0.Other x0.Less x0.More)) (st_ups _ _) rfl rfl (by kernel_rfl) (fun _ _ _ _ h => h) (by generalize (scalar_Within (law_around x0.V x0.Mask x0.Down x0.Up) (law_around x0.W x0.Other x0.Less x0.More)) = gg0; cases gg0 <;> rfl) (by intro hb; have hb1 := hid (show (scalar_Within (law_around x0.V x0.Mask x0.Down x0.Up) (law_around x0.W x0.Other x0.Less x0.More)) = true from hb); intro x hx; (try simp only [hb]); (try simp only [cond_true]); obtain ⟨f0, f1, f2, f3, f4, f5⟩ := hx.six 3 0 rfl rfl; go_simp; (first | done | exact rfl)) ?_
  simp only [sA, sB, vS]
  refine take_if (i := 5) (v := .pointer (some ⟨w.heap.size, 0, none⟩)) (scalar_Within (law_around x0.V x0.Mask x0.Down x0.Up) (law_around x0.W x0.Other x0.Less x0.More)) (st_ups _ _) rfl rfl (by kernel_rfl) (fun _ _ _ _ h => h) (by generalize (scalar_Within (law_around x0.V x0.Mask x0.Down x0.Up) (law_around x0.W x0.Other x0.Less x0.More)) = gg0; cases gg0 <;> rfl) (by intro hb; have hb2 := hid (show (scalar_Within (law_around x0.V x0.Mask x0.Down x0.Up) (law_around x0.W x0.Other x0.Less x0.More)) = true from hb); intro x hx; (try simp only [hb]); (try simp only [cond_true]); go_simp; (first | done | exact rfl)) ?_
  simp only [sA, sB]
  refine take_if (i := 6) (v := .int .u64 (tn (x0.V))) (scalar_Within (law_around x0.V x0.Mask x0.Down x0.Up) (law_around x0.W x0.Other x0.Less x0.More)) (st_ups _ _) rfl rfl (by kernel_rfl) (fun _ _ _ _ h => h) (by generalize (scalar_Within (law_around x0.V x0.Mask x0.Down x0.Up) (law_around x0.W x0.Other x0.Less x0.More)) = gg0; cases gg0 <;> rfl) (by intro hb; have hb3 := hid (show (scalar_Within (law_around x0.V x0.Mask x0.Down x0.Up) (law_around x0.W x0.Other x0.Less x0.More)) = true from hb); intro x hx; (try simp only [hb]); (try simp only [cond_true]); have f0 := hx.load 0 0 rfl rfl; go_simp; (first | done | exact rfl)) ?_
  simp only [sA, sB]
  refine take_if_call (i := 7) (f := 13) (args := #[vS (law_around x0.W x0.Other x0.Less x0.More), .int .u64 (tn (x0.V))]) (v := .bool true) (scalar_Within (law_around x0.V x0.Mask x0.Down x0.Up) (law_around x0.W x0.Other x0.Less x0.More)) (st_ups _ _) rfl rfl (by kernel_rfl) (fun _ _ _ _ h => h) (by generalize (scalar_Within (law_around x0.V x0.Mask x0.Down x0.Up) (law_around x0.W x0.Other x0.Less x0.More)) = gg0; cases gg0 <;> rfl) (by intro hb; have hb4 := hid (show (scalar_Within (law_around x0.V x0.Mask x0.Down x0.Up) (law_around x0.W x0.Other x0.Less x0.More)) = true from hb); intro x hx; (try simp only [hb]); (try simp only [cond_true]); kernel_rfl) (by intro hb; have hb4 := hid (show (scalar_Within (law_around x0.V x0.Mask x0.Down x0.Up) (law_around x0.W x0.Other x0.Less x0.More)) = true from hb); intro x hx; exact calls_is (scalar_In_any (law_around x0.W x0.Other x0.Less x0.More) x0.V _) (congrArg Value.bool (has_sub hb4.out HA.out.2))) ?_
  simp only [sA, sB]
  refine take_if (i := 8) (v := .bool false) (scalar_Within (law_around x0.V x0.Mask x0.Down x0.Up) (law_around x0.W x0.Other x0.Less x0.More)) (st_ups _ _) rfl rfl (by kernel_rfl) (fun _ _ _ _ h => h) (by generalize (scalar_Within (law_around x0.V x0.Mask x0.Down x0.Up) (law_around x0.W x0.Other x0.Less x0.More)) = gg0; cases gg0 <;> rfl) (by intro hb; have hb5 := hid (show (scalar_Within (law_around x0.V x0.Mask x0.Down x0.Up) (law_around x0.W x0.Other x0.Less x0.More)) = true from hb); intro x hx; (try simp only [hb]); (try simp only [cond_true]); go_simp; (first | done | exact rfl)) ?_
  simp only [sA, sB]
  refine tv 9 (.bool false) rfl rfl (by intro x hx; (cases hq : (scalar_Within (law_around x0.V x0.Mask x0.Down x0.Up) (law_around x0.W x0.Other x0.Less x0.More)) <;> first | rfl | (simp only [hq]; rfl) | simp [hq])) ?_
  simp only [sA, sB]
  refine tm 10 55 rfl rfl rfl rfl ?_
  simp only [sA, sB]
  refine tv 11 (.pointer (some ⟨w.heap.size, 0, none⟩)) rfl rfl (by intro x hx; go_simp; (first | done | exact rfl)) ?_
  simp only [sA, sB]
  refine tv 12 (.int .u64 (tn (x0.V))) rfl rfl (by intro x hx; have f0 := hx.load 0 0 rfl rfl; go_simp; (first | done | exact rfl)) ?_
  simp only [sA, sB]
  refine tc 13 26 #[.int .u64 (tn (x0.V))] (vS (Sc.mk (P.mk x0.V 0#64) (P.mk x0.V x0.V) (P.mk x0.V x0.V))) rfl rfl (by intro x hx; exact scalar_Of_any x0.V _) ?_
  simp only [sA, sB, vS]
  refine tv 14 (.pointer (some ⟨w.heap.size, 1, none⟩)) rfl rfl (by intro x hx; go_simp; (first | done | exact rfl)) ?_
  simp only [sA, sB]
  refine tv 15 (.int .u64 (tn (x0.W))) rfl rfl (by intro x hx; have f0 := hx.load 0 1 rfl rfl; go_simp; (first | done | exact rfl)) ?_
  simp only [sA, sB]
  refine tc 16 13 #[vS (Sc.mk (P.mk x0.V 0#64) (P.mk x0.V x0.V) (P.mk x0.V x0.V)), .int .u64 (tn (x0.W))] (.bool (scalar_In (Sc.mk (P.mk x0.V 0#64) (P.mk x0.V x0.V) (P.mk x0.V x0.V)) x0.W)) rfl rfl (by intro x hx; exact scalar_In_any (Sc.mk (P.mk x0.V 0#64) (P.mk x0.V x0.V) (P.mk x0.V x0.V)) x0.W _) ?_
  simp only [sA, sB]
  refine tv 17 (.pointer (some ⟨w.heap.size, 0, none⟩)) rfl rfl (by intro x hx; go_simp; (first | done | exact rfl)) ?_
  simp only [sA, sB]
  refine tv 18 (.int .u64 (tn (x0.V))) rfl rfl (by intro x hx; have f0 := hx.load 0 0 rfl rfl; go_simp; (first | done | exact rfl)) ?_
  simp only [sA, sB]
  refine tv 19 (.pointer (some ⟨w.heap.size, 1, none⟩)) rfl rfl (by intro x hx; go_simp; (first | done | exact rfl)) ?_
  simp only [sA, sB]
  refine tv 20 (.int .u64 (tn (x0.W))) rfl rfl (by intro x hx; have f0 := hx.load 0 1 rfl rfl; go_simp; (first | done | exact rfl)) ?_
  simp only [sA, sB]
  refine tv 21 (.bool ((x0.V == x0.W))) rfl rfl (by intro x hx; go_simp; (first | done | exact eqUT x0.V x0.W | exact congrArg _ (eqUT x0.V x0.W) | (rw [eqUT x0.V x0.W]; done) | (rw [eqUT x0.V x0.W]; rfl))) ?_
  simp only [sA, sB]
  refine tv 22 (.bool false) rfl rfl (by intro x hx; go_simp; (first | done | (first | exact nb_f (of_eq x0.V x0.W) | exact eq_of_beq (nb_f (of_eq x0.V x0.W)) | exact congrArg _ (nb_f (of_eq x0.V x0.W)) | (rw [nb_f (of_eq x0.V x0.W)]; done) | ((first | rfl | exact neB (scalar_In (Sc.mk (P.mk x0.V 0#64) (P.mk x0.V x0.V) (P.mk x0.V x0.V)) x0.W) (x0.V == x0.W) | exact congrArg _ (neB (scalar_In (Sc.mk (P.mk x0.V 0#64) (P.mk x0.V x0.V) (P.mk x0.V x0.V)) x0.W) (x0.V == x0.W)) | (rw [neB (scalar_In (Sc.mk (P.mk x0.V 0#64) (P.mk x0.V x0.V) (P.mk x0.V x0.V)) x0.W) (x0.V == x0.W)]; done) | (rw [neB (scalar_In (Sc.mk (P.mk x0.V 0#64) (P.mk x0.V x0.V) (P.mk x0.V x0.V)) x0.W) (x0.V == x0.W)]; rfl)); rw [nb_f (of_eq x0.V x0.W)]) | exact congrArg tn (eq_of_beq (nb_f (of_eq x0.V x0.W))) | exact congrArg ti (eq_of_beq (nb_f (of_eq x0.V x0.W))) | exact congrArg tn (eq_of_bne (nb_f (of_eq x0.V x0.W))) | simpa using (nb_f (of_eq x0.V x0.W))))) ?_
  simp only [sA, sB]
  refine tv 23 (.bool false) rfl rfl (by intro x hx; go_simp; (first | done | exact rfl)) ?_
  simp only [sA, sB]
  refine tm 24 69 rfl rfl rfl rfl ?_
  simp only [sA, sB]
  refine tv 25 (.pointer (some ⟨w.heap.size, 0, none⟩)) rfl rfl (by intro x hx; go_simp; (first | done | exact rfl)) ?_
  simp only [sA, sB]
  refine tv 26 (.int .u64 (tn (x0.V))) rfl rfl (by intro x hx; have f0 := hx.load 0 0 rfl rfl; go_simp; (first | done | exact rfl)) ?_
  simp only [sA, sB]
  refine tc 27 26 #[.int .u64 (tn (x0.V))] (vS (Sc.mk (P.mk x0.V 0#64) (P.mk x0.V x0.V) (P.mk x0.V x0.V))) rfl rfl (by intro x hx; exact scalar_Of_any x0.V _) ?_
  simp only [sA, sB, vS]
  refine tv 28 (.pointer (some ⟨w.heap.size, 0, none⟩)) rfl rfl (by intro x hx; go_simp; (first | done | exact rfl)) ?_
  simp only [sA, sB]
  refine tv 29 (.int .u64 (tn (x0.V))) rfl rfl (by intro x hx; have f0 := hx.load 0 0 rfl rfl; go_simp; (first | done | exact rfl)) ?_
  simp only [sA, sB]
  refine tc 30 13 #[vS (Sc.mk (P.mk x0.V 0#64) (P.mk x0.V x0.V) (P.mk x0.V x0.V)), .int .u64 (tn (x0.V))] (.bool true) rfl rfl (by intro x hx; exact calls_is (scalar_In_any (Sc.mk (P.mk x0.V 0#64) (P.mk x0.V x0.V) (P.mk x0.V x0.V)) x0.V _) (congrArg Value.bool (of_in1 x0.V))) ?_
  simp only [sA, sB]
  refine tv 31 (.bool false) rfl rfl (by intro x hx; go_simp; (first | done | exact rfl)) ?_
  simp only [sA, sB]
  refine tv 32 (.bool false) rfl rfl (by intro x hx; go_simp; (first | done | exact rfl)) ?_
  simp only [sA, sB]
  clear HS
  refine td fun W4 HS => ?_
  go_upto_region 7 with fail
  refine lnb HS.out rfl ?_
  refine lv 0 (.pointer (some ⟨w.heap.size + 1, 2, none⟩)) rfl rfl (by intro x hx; go_simp; (first | done | exact rfl)) ?_
  simp only [sA, sB]
  refine lv 1 (.pointer (some ⟨w.heap.size + 1, 2, none⟩)) rfl rfl (by intro x hx; go_simp; (first | done | exact rfl)) ?_
  simp only [sA, sB]
  refine lv 2 (.int .u64 (tn (x1.u.lo))) rfl rfl (by intro x hx; have f0 := hx.load 1 2 rfl rfl; go_simp; (first | done | exact rfl)) ?_
  simp only [sA, sB]
  refine lv 3 (.pointer (some ⟨w.heap.size + 1, 2, none⟩)) rfl rfl (by intro x hx; go_simp; (first | done | exact rfl)) ?_
  simp only [sA, sB]
  refine lv 4 (.pointer (some ⟨w.heap.size + 1, 3, none⟩)) rfl rfl (by intro x hx; go_simp; (first | done | exact rfl)) ?_
  simp only [sA, sB]
  refine lv 5 (.int .u64 (tn (x1.u.hi))) rfl rfl (by intro x hx; have f0 := hx.load 1 3 rfl rfl; go_simp; (first | done | exact rfl)) ?_
  simp only [sA, sB]
  refine lv 6 (.bool (gtU x1.u.lo x1.u.hi)) rfl rfl (by intro x hx; go_simp; (first | done | exact gtUT x1.u.lo x1.u.hi | exact congrArg _ (gtUT x1.u.lo x1.u.hi) | (rw [gtUT x1.u.lo x1.u.hi]; done) | (rw [gtUT x1.u.lo x1.u.hi]; rfl))) ?_
  simp only [sA, sB]
  refine lm 7 85 rfl rfl rfl rfl ?_
  simp only [sA, sB]
  refine lin_if (i := 8) (v := .pointer (some ⟨w.heap.size + 1, 4, none⟩)) (!(gtU x1.u.lo x1.u.hi)) rfl rfl (by generalize (gtU x1.u.lo x1.u.hi) = gg0; cases gg0 <;> rfl) (by intro hb; have hb6 := hid (show (gtU x1.u.lo x1.u.hi) = false from nnb hb); intro x hx; (try simp only [hb]); (try simp only [cond_true]); go_simp; (first | done | exact rfl)) ?_
  simp only [sA, sB]
  refine lin_if (i := 9) (v := .pointer (some ⟨w.heap.size + 1, 4, none⟩)) (!(gtU x1.u.lo x1.u.hi)) rfl rfl (by generalize (gtU x1.u.lo x1.u.hi) = gg0; cases gg0 <;> rfl) (by intro hb; have hb7 := hid (show (gtU x1.u.lo x1.u.hi) = false from nnb hb); intro x hx; (try simp only [hb]); (try simp only [cond_true]); go_simp; (first | done | exact rfl)) ?_
  simp only [sA, sB]
  refine lin_if (i := 10) (v := .int .i64 (ti (x1.s.lo))) (!(gtU x1.u.lo x1.u.hi)) rfl rfl (by generalize (gtU x1.u.lo x1.u.hi) = gg0; cases gg0 <;> rfl) (by intro hb; have hb8 := hid (show (gtU x1.u.lo x1.u.hi) = false from nnb hb); intro x hx; (try simp only [hb]); (try simp only [cond_true]); have f0 := hx.load 1 4 rfl rfl; go_simp; (first | done | exact rfl)) ?_
  simp only [sA, sB]
  refine lin_if (i := 11) (v := .pointer (some ⟨w.heap.size + 1, 4, none⟩)) (!(gtU x1.u.lo x1.u.hi)) rfl rfl (by generalize (gtU x1.u.lo x1.u.hi) = gg0; cases gg0 <;> rfl) (by intro hb; have hb9 := hid (show (gtU x1.u.lo x1.u.hi) = false from nnb hb); intro x hx; (try simp only [hb]); (try simp only [cond_true]); go_simp; (first | done | exact rfl)) ?_
  simp only [sA, sB]
  refine lin_if (i := 12) (v := .pointer (some ⟨w.heap.size + 1, 5, none⟩)) (!(gtU x1.u.lo x1.u.hi)) rfl rfl (by generalize (gtU x1.u.lo x1.u.hi) = gg0; cases gg0 <;> rfl) (by intro hb; have hb10 := hid (show (gtU x1.u.lo x1.u.hi) = false from nnb hb); intro x hx; (try simp only [hb]); (try simp only [cond_true]); go_simp; (first | done | exact rfl)) ?_
  simp only [sA, sB]
  refine lin_if (i := 13) (v := .int .i64 (ti (x1.s.hi))) (!(gtU x1.u.lo x1.u.hi)) rfl rfl (by generalize (gtU x1.u.lo x1.u.hi) = gg0; cases gg0 <;> rfl) (by intro hb; have hb11 := hid (show (gtU x1.u.lo x1.u.hi) = false from nnb hb); intro x hx; (try simp only [hb]); (try simp only [cond_true]); have f0 := hx.load 1 5 rfl rfl; go_simp; (first | done | exact rfl)) ?_
  simp only [sA, sB]
  refine lin_if (i := 14) (v := .bool (gtI x1.s.lo x1.s.hi)) (!(gtU x1.u.lo x1.u.hi)) rfl rfl (by generalize (gtU x1.u.lo x1.u.hi) = gg0; cases gg0 <;> rfl) (by intro hb; have hb12 := hid (show (gtU x1.u.lo x1.u.hi) = false from nnb hb); intro x hx; (try simp only [hb]); (try simp only [cond_true]); go_simp; (first | done | exact gtIT x1.s.lo x1.s.hi | exact congrArg _ (gtIT x1.s.lo x1.s.hi) | (rw [gtIT x1.s.lo x1.s.hi]; done) | (rw [gtIT x1.s.lo x1.s.hi]; rfl))) ?_
  simp only [sA, sB]
  refine lv 15 (.bool ((bif gtU x1.u.lo x1.u.hi then true else gtI x1.s.lo x1.s.hi))) rfl rfl (by intro x hx; (cases hq : (gtU x1.u.lo x1.u.hi) <;> first | rfl | (simp only [hq]; rfl) | simp [hq])) ?_
  simp only [sA, sB]
  refine lm 16 94 rfl rfl rfl rfl ?_
  simp only [sA, sB]
  refine lin_if (i := 17) (v := .pointer (some ⟨w.heap.size + 1, 0, none⟩)) (!(bif gtU x1.u.lo x1.u.hi then true else gtI x1.s.lo x1.s.hi)) rfl rfl (by generalize (bif gtU x1.u.lo x1.u.hi then true else gtI x1.s.lo x1.s.hi) = gg0; cases gg0 <;> rfl) (by intro hb; have hb13 := hid (show ((bif gtU x1.u.lo x1.u.hi then true else gtI x1.s.lo x1.s.hi)) = false from nnb hb); intro x hx; (try simp only [hb]); (try simp only [cond_true]); go_simp; (first | done | exact rfl)) ?_
  simp only [sA, sB]
  refine lin_if (i := 18) (v := .pointer (some ⟨w.heap.size + 1, 0, none⟩)) (!(bif gtU x1.u.lo x1.u.hi then true else gtI x1.s.lo x1.s.hi)) rfl rfl (by generalize (bif gtU x1.u.lo x1.u.hi then true else gtI x1.s.lo x1.s.hi) = gg0; cases gg0 <;> rfl) (by intro hb; have hb14 := hid (show ((bif gtU x1.u.lo x1.u.hi then true else gtI x1.s.lo x1.s.hi)) = false from nnb hb); intro x hx; (try simp only [hb]); (try simp only [cond_true]); go_simp; (first | done | exact rfl)) ?_
  simp only [sA, sB]
  refine lin_if (i := 19) (v := .int .u64 (tn (x1.t.lo))) (!(bif gtU x1.u.lo x1.u.hi then true else gtI x1.s.lo x1.s.hi)) rfl rfl (by generalize (bif gtU x1.u.lo x1.u.hi then true else gtI x1.s.lo x1.s.hi) = gg0; cases gg0 <;> rfl) (by intro hb; have hb15 := hid (show ((bif gtU x1.u.lo x1.u.hi then true else gtI x1.s.lo x1.s.hi)) = false from nnb hb); intro x hx; (try simp only [hb]); (try simp only [cond_true]); have f0 := hx.load 1 0 rfl rfl; go_simp; (first | done | exact rfl)) ?_
  simp only [sA, sB]
  refine lin_if (i := 20) (v := .pointer (some ⟨w.heap.size + 1, 0, none⟩)) (!(bif gtU x1.u.lo x1.u.hi then true else gtI x1.s.lo x1.s.hi)) rfl rfl (by generalize (bif gtU x1.u.lo x1.u.hi then true else gtI x1.s.lo x1.s.hi) = gg0; cases gg0 <;> rfl) (by intro hb; have hb16 := hid (show ((bif gtU x1.u.lo x1.u.hi then true else gtI x1.s.lo x1.s.hi)) = false from nnb hb); intro x hx; (try simp only [hb]); (try simp only [cond_true]); go_simp; (first | done | exact rfl)) ?_
  simp only [sA, sB]
  refine lin_if (i := 21) (v := .pointer (some ⟨w.heap.size + 1, 1, none⟩)) (!(bif gtU x1.u.lo x1.u.hi then true else gtI x1.s.lo x1.s.hi)) rfl rfl (by generalize (bif gtU x1.u.lo x1.u.hi then true else gtI x1.s.lo x1.s.hi) = gg0; cases gg0 <;> rfl) (by intro hb; have hb17 := hid (show ((bif gtU x1.u.lo x1.u.hi then true else gtI x1.s.lo x1.s.hi)) = false from nnb hb); intro x hx; (try simp only [hb]); (try simp only [cond_true]); go_simp; (first | done | exact rfl)) ?_
  simp only [sA, sB]
  refine lin_if (i := 22) (v := .int .u64 (tn (x1.t.hi))) (!(bif gtU x1.u.lo x1.u.hi then true else gtI x1.s.lo x1.s.hi)) rfl rfl (by generalize (bif gtU x1.u.lo x1.u.hi then true else gtI x1.s.lo x1.s.hi) = gg0; cases gg0 <;> rfl) (by intro hb; have hb18 := hid (show ((bif gtU x1.u.lo x1.u.hi then true else gtI x1.s.lo x1.s.hi)) = false from nnb hb); intro x hx; (try simp only [hb]); (try simp only [cond_true]); have f0 := hx.load 1 1 rfl rfl; go_simp; (first | done | exact rfl)) ?_
  simp only [sA, sB]
  refine lin_if (i := 23) (v := .int .u64 (tn (x1.t.lo &&& x1.t.hi))) (!(bif gtU x1.u.lo x1.u.hi then true else gtI x1.s.lo x1.s.hi)) rfl rfl (by generalize (bif gtU x1.u.lo x1.u.hi then true else gtI x1.s.lo x1.s.hi) = gg0; cases gg0 <;> rfl) (by intro hb; have hb19 := hid (show ((bif gtU x1.u.lo x1.u.hi then true else gtI x1.s.lo x1.s.hi)) = false from nnb hb); intro x hx; (try simp only [hb]); (try simp only [cond_true]); go_simp; (first | done | exact andUT x1.t.lo x1.t.hi | exact congrArg _ (andUT x1.t.lo x1.t.hi) | (rw [andUT x1.t.lo x1.t.hi]; done) | (rw [andUT x1.t.lo x1.t.hi]; rfl))) ?_
  simp only [sA, sB]
  refine lin_if (i := 24) (v := .bool (((x1.t.lo &&& x1.t.hi) != 0#64))) (!(bif gtU x1.u.lo x1.u.hi then true else gtI x1.s.lo x1.s.hi)) rfl rfl (by generalize (bif gtU x1.u.lo x1.u.hi then true else gtI x1.s.lo x1.s.hi) = gg0; cases gg0 <;> rfl) (by intro hb; have hb20 := hid (show ((bif gtU x1.u.lo x1.u.hi then true else gtI x1.s.lo x1.s.hi)) = false from nnb hb); intro x hx; (try simp only [hb]); (try simp only [cond_true]); go_simp; (first | done | exact neUT (x1.t.lo &&& x1.t.hi) 0#64 | exact congrArg _ (neUT (x1.t.lo &&& x1.t.hi) 0#64) | (rw [neUT (x1.t.lo &&& x1.t.hi) 0#64]; done) | (rw [neUT (x1.t.lo &&& x1.t.hi) 0#64]; rfl))) ?_
  simp only [sA, sB]
  refine lv 25 (.bool ((bif (bif gtU x1.u.lo x1.u.hi then true else gtI x1.s.lo x1.s.hi) then true else ((x1.t.lo &&& x1.t.hi) != 0#64)))) rfl rfl (by intro x hx; (cases hq : ((bif gtU x1.u.lo x1.u.hi then true else gtI x1.s.lo x1.s.hi)) <;> first | rfl | (simp only [hq]; rfl) | simp [hq])) ?_
  simp only [sA, sB]
  clear HS
  refine ld fun W5 HS => ?_
  cases h1 : ((bif (bif gtU x1.u.lo x1.u.hi then true else gtI x1.s.lo x1.s.hi) then true else ((x1.t.lo &&& x1.t.hi) != 0#64)))
  ·replace h1 := hid h1
   go_upto_region 9 with fail
   refine lnb HS.out rfl ?_
   refine lv 0 (vS x1) rfl rfl (by intro x hx; obtain ⟨f0, f1, f2, f3, f4, f5⟩ := hx.six 1 0 rfl rfl; go_simp; (first | done | exact rfl)) ?_
   simp only [sA, sB, vS]
   refine lc 1 9 #[vS x1] (.tuple #[vS ((scalar_Norm x1).1), .bool ((scalar_Norm x1).2)]) rfl rfl (by intro x hx; exact scalar_Norm_any x1 _) ?_
   simp only [sA, sB, vS]
   refine lm 2 108 rfl rfl rfl rfl ?_
   simp only [sA, sB]
   refine lv 3 (vS ((scalar_Norm x1).1)) rfl rfl (by intro x hx; go_simp; (first | done | exact rfl)) ?_
   simp only [sA, sB, vS]
   refine lv 4 (.bool ((scalar_Norm x1).2)) rfl rfl (by intro x hx; go_simp; (first | done | exact rfl)) ?_
   simp only [sA, sB]
   refine lin_new (i := 5) rfl rfl (by rfl) [.int .u64 0, .int .u64 0, .int .u64 0, .int .u64 0, .int .i64 0, .int .i64 0] 30 (fun k => .pointer (some ⟨k, 0, none⟩)) [some (.int .u64 0), some (.int .u64 0), some (.int .u64 0), some (.int .u64 0), some (.int .i64 0), some (.int .i64 0)] (lessC_refl _) (by intro x hx; go_simp; (first | done | exact rfl)) (fun k4 => ?_)
   simp only [sA, sB, sC, sD]
   refine ls 6 5 0 (cS ((scalar_Norm x1).1)) rfl rfl rfl (by intro x hx; obtain ⟨⟨_, z0, q0⟩, ⟨_, z1, q1⟩, ⟨_, z2, q2⟩, ⟨_, z3, q3⟩, ⟨_, z4, q4⟩, ⟨_, z5, q5⟩⟩ := hx.at6 5 0 rfl; go_simp; (first | done | rfl)) ?_
   simp only [Blk.putC, setM, cS, sA, sB]
   refine la 7 110 rfl rfl rfl rfl ?_
   simp only [sA, sB]
   clear HS
   refine ld fun W6 HS => ?_
   go_upto_region 10 with fail
   refine lnb HS.out rfl ?_
   refine lm 0 10 rfl rfl rfl rfl ?_
   simp only [sA, sB]
   refine lv 1 (.bool ((!((scalar_Norm x1).2)))) rfl rfl (by intro x hx; go_simp; (first | done | exact rfl)) ?_
   simp only [sA, sB]
   clear HS
   refine ld fun W7 HS => ?_
   cases h2 : ((!((scalar_Norm x1).2)))
   ·replace h2 := hid h2
    go_upto_region 12 with fail
    refine upb 24 (HS.out.drew) rfl ?_
    refine tv 0 (vS ((scalar_Norm x1).1)) rfl rfl (by intro x hx; obtain ⟨f0, f1, f2, f3, f4, f5⟩ := hx.six 5 0 rfl rfl; go_simp; (first | done | exact rfl)) ?_
    simp only [sA, sB, vS]
    refine tv 1 (.pointer (some ⟨w.heap.size, 0, none⟩)) rfl rfl (by intro x hx; go_simp; (first | done | exact rfl)) ?_
    simp only [sA, sB]
    refine tv 2 (.int .u64 (tn (x0.V))) rfl rfl (by intro x hx; have f0 := hx.load 0 0 rfl rfl; go_simp; (first | done | exact rfl)) ?_
    simp only [sA, sB]
    refine tc 3 13 #[vS ((scalar_Norm x1).1), .int .u64 (tn (x0.V))] (.bool (scalar_In ((scalar_Norm x1).1) x0.V)) rfl rfl (by intro x hx; exact scalar_In_any ((scalar_Norm x1).1) x0.V _) ?_
    simp only [sA, sB]
    refine tv 4 (vS x1) rfl rfl (by intro x hx; obtain ⟨f0, f1, f2, f3, f4, f5⟩ := hx.six 1 0 rfl rfl; go_simp; (first | done | exact rfl)) ?_
    simp only [sA, sB, vS]
    refine tv 5 (.pointer (some ⟨w.heap.size, 0, none⟩)) rfl rfl (by intro x hx; go_simp; (first | done | exact rfl)) ?_
    simp only [sA, sB]
    refine tv 6 (.int .u64 (tn (x0.V))) rfl rfl (by intro x hx; have f0 := hx.load 0 0 rfl rfl; go_simp; (first | done | exact rfl)) ?_
    simp only [sA, sB]
    refine tc 7 13 #[vS x1, .int .u64 (tn (x0.V))] (.bool (scalar_In x1 x0.V)) rfl rfl (by intro x hx; exact scalar_In_any x1 x0.V _) ?_
    simp only [sA, sB]
    refine tv 8 (.bool true) rfl rfl (by intro x hx; go_simp; (first | done | (first | exact beq_tt (norm_eq (clean_if h1.out) (flip_t h2).out) | exact eq_of_beq (beq_tt (norm_eq (clean_if h1.out) (flip_t h2).out)) | exact congrArg _ (beq_tt (norm_eq (clean_if h1.out) (flip_t h2).out)) | (rw [beq_tt (norm_eq (clean_if h1.out) (flip_t h2).out)]; done) | ((first | rfl | skip); rw [beq_tt (norm_eq (clean_if h1.out) (flip_t h2).out)]) | exact congrArg tn (eq_of_beq (beq_tt (norm_eq (clean_if h1.out) (flip_t h2).out))) | exact congrArg ti (eq_of_beq (beq_tt (norm_eq (clean_if h1.out) (flip_t h2).out))) | exact congrArg tn (eq_of_bne (beq_tt (norm_eq (clean_if h1.out) (flip_t h2).out))) | simpa using (beq_tt (norm_eq (clean_if h1.out) (flip_t h2).out))))) ?_
    simp only [sA, sB]
    refine tm 9 141 rfl rfl rfl rfl ?_
    simp only [sA, sB]
    refine tv 10 (vS ((scalar_Norm x1).1)) rfl rfl (by intro x hx; obtain ⟨f0, f1, f2, f3, f4, f5⟩ := hx.six 5 0 rfl rfl; go_simp; (first | done | exact rfl)) ?_
    simp only [sA, sB, vS]
    refine tv 11 (.pointer (some ⟨w.heap.size, 1, none⟩)) rfl rfl (by intro x hx; go_simp; (first | done | exact rfl)) ?_
    simp only [sA, sB]
    refine tv 12 (.int .u64 (tn (x0.W))) rfl rfl (by intro x hx; have f0 := hx.load 0 1 rfl rfl; go_simp; (first | done | exact rfl)) ?_
    simp only [sA, sB]
    refine tc 13 13 #[vS ((scalar_Norm x1).1), .int .u64 (tn (x0.W))] (.bool (scalar_In ((scalar_Norm x1).1) x0.W)) rfl rfl (by intro x hx; exact scalar_In_any ((scalar_Norm x1).1) x0.W _) ?_
    simp only [sA, sB]
    refine tv 14 (vS x1) rfl rfl (by intro x hx; obtain ⟨f0, f1, f2, f3, f4, f5⟩ := hx.six 1 0 rfl rfl; go_simp; (first | done | exact rfl)) ?_
    simp only [sA, sB, vS]
    refine tv 15 (.pointer (some ⟨w.heap.size, 1, none⟩)) rfl rfl (by intro x hx; go_simp; (first | done | exact rfl)) ?_
    simp only [sA, sB]
    refine tv 16 (.int .u64 (tn (x0.W))) rfl rfl (by intro x hx; have f0 := hx.load 0 1 rfl rfl; go_simp; (first | done | exact rfl)) ?_
    simp only [sA, sB]
    refine tc 17 13 #[vS x1, .int .u64 (tn (x0.W))] (.bool (scalar_In x1 x0.W)) rfl rfl (by intro x hx; exact scalar_In_any x1 x0.W _) ?_
    simp only [sA, sB]
    refine tv 18 (.bool true) rfl rfl (by intro x hx; go_simp; (first | done | (first | exact beq_tt (norm_eq (clean_if h1.out) (flip_t h2).out) | exact eq_of_beq (beq_tt (norm_eq (clean_if h1.out) (flip_t h2).out)) | exact congrArg _ (beq_tt (norm_eq (clean_if h1.out) (flip_t h2).out)) | (rw [beq_tt (norm_eq (clean_if h1.out) (flip_t h2).out)]; done) | ((first | rfl | skip); rw [beq_tt (norm_eq (clean_if h1.out) (flip_t h2).out)]) | exact congrArg tn (eq_of_beq (beq_tt (norm_eq (clean_if h1.out) (flip_t h2).out))) | exact congrArg ti (eq_of_beq (beq_tt (norm_eq (clean_if h1.out) (flip_t h2).out))) | exact congrArg tn (eq_of_bne (beq_tt (norm_eq (clean_if h1.out) (flip_t h2).out))) | simpa using (beq_tt (norm_eq (clean_if h1.out) (flip_t h2).out))))) ?_
    simp only [sA, sB]
    refine tv 19 (.bool true) rfl rfl (by intro x hx; go_simp; (first | done | exact rfl)) ?_
    simp only [sA, sB]
    refine tm 20 152 rfl rfl rfl rfl ?_
    simp only [sA, sB]
    refine tc 21 8 #[] (.bool true) rfl rfl (by intro x hx; exact law_works_any _ (HT.out.up hx.below)) ?_
    simp only [sA, sB]
    refine tv 22 (.bool true) rfl rfl (by intro x hx; go_simp; (first | done | exact rfl)) ?_
    simp only [sA, sB]
    refine ta 23 155 rfl rfl rfl rfl ?_
    simp only [sA, sB]
    clear HS
    refine td fun W8 HS => ?_
    go_wp2
    exact bodyPost_ret (v := .bool true) (by simp [results, Tryz.results5, go_sem]) rfl ⟨rfl, HS.out.below⟩
   ·replace h2 := hid h2
    go_upto_region 11 with fail
    refine upb 21 (HS.out.drew) rfl ?_
    refine tv 0 (vS ((scalar_Norm x1).1)) rfl rfl (by intro x hx; obtain ⟨f0, f1, f2, f3, f4, f5⟩ := hx.six 5 0 rfl rfl; go_simp; (first | done | exact rfl)) ?_
    simp only [sA, sB, vS]
    refine tc 1 25 #[] (vS scalar_All) rfl rfl (by intro x hx; exact scalar_All_any _) ?_
    simp only [sA, sB, vS]
    refine tv 2 (.bool true) rfl rfl (by intro x hx; go_simp; (first | done | exact (eqScT (fun b => Result.ok (Next.value (Value.bool b)) x) ((((scalar_Norm x1).1).t).lo) ((((scalar_Norm x1).1).t).hi) ((((scalar_Norm x1).1).u).lo) ((((scalar_Norm x1).1).u).hi) ((((scalar_Norm x1).1).s).lo) ((((scalar_Norm x1).1).s).hi) scalar_All.t.lo scalar_All.t.hi scalar_All.u.lo scalar_All.u.hi scalar_All.s.lo scalar_All.s.hi).trans (congrArg (fun b => Result.ok (Next.value (Value.bool b)) x) (eqSc_t (norm_no (flip_f h2).out))))) ?_
    simp only [sA, sB]
    refine tm 3 115 rfl rfl rfl rfl ?_
    simp only [sA, sB]
    refine tv 4 (vS x1) rfl rfl (by intro x hx; obtain ⟨f0, f1, f2, f3, f4, f5⟩ := hx.six 1 0 rfl rfl; go_simp; (first | done | exact rfl)) ?_
    simp only [sA, sB, vS]
    refine tv 5 (.pointer (some ⟨w.heap.size, 0, none⟩)) rfl rfl (by intro x hx; go_simp; (first | done | exact rfl)) ?_
    simp only [sA, sB]
    refine tv 6 (.int .u64 (tn (x0.V))) rfl rfl (by intro x hx; have f0 := hx.load 0 0 rfl rfl; go_simp; (first | done | exact rfl)) ?_
    simp only [sA, sB]
    refine tc 7 13 #[vS x1, .int .u64 (tn (x0.V))] (.bool false) rfl rfl (by intro x hx; exact calls_is (scalar_In_any x1 x0.V _) (congrArg Value.bool (norm_none (clean_if h1.out) (flip_f h2).out))) ?_
    simp only [sA, sB]
    refine tv 8 (.bool true) rfl rfl (by intro x hx; go_simp; (first | done | exact rfl)) ?_
    simp only [sA, sB]
    refine tv 9 (.bool true) rfl rfl (by intro x hx; go_simp; (first | done | exact rfl)) ?_
    simp only [sA, sB]
    refine tm 10 122 rfl rfl rfl rfl ?_
    simp only [sA, sB]
    refine tv 11 (vS x1) rfl rfl (by intro x hx; obtain ⟨f0, f1, f2, f3, f4, f5⟩ := hx.six 1 0 rfl rfl; go_simp; (first | done | exact rfl)) ?_
    simp only [sA, sB, vS]
    refine tv 12 (.pointer (some ⟨w.heap.size, 1, none⟩)) rfl rfl (by intro x hx; go_simp; (first | done | exact rfl)) ?_
    simp only [sA, sB]
    refine tv 13 (.int .u64 (tn (x0.W))) rfl rfl (by intro x hx; have f0 := hx.load 0 1 rfl rfl; go_simp; (first | done | exact rfl)) ?_
    simp only [sA, sB]
    refine tc 14 13 #[vS x1, .int .u64 (tn (x0.W))] (.bool false) rfl rfl (by intro x hx; exact calls_is (scalar_In_any x1 x0.W _) (congrArg Value.bool (norm_none (clean_if h1.out) (flip_f h2).out))) ?_
    simp only [sA, sB]
    refine tv 15 (.bool true) rfl rfl (by intro x hx; go_simp; (first | done | exact rfl)) ?_
    simp only [sA, sB]
    refine tv 16 (.bool true) rfl rfl (by intro x hx; go_simp; (first | done | exact rfl)) ?_
    simp only [sA, sB]
    refine tm 17 129 rfl rfl rfl rfl ?_
    simp only [sA, sB]
    refine tc 18 8 #[] (.bool true) rfl rfl (by intro x hx; exact law_works_any _ (HT.out.up hx.below)) ?_
    simp only [sA, sB]
    refine tv 19 (.bool true) rfl rfl (by intro x hx; go_simp; (first | done | exact rfl)) ?_
    simp only [sA, sB]
    refine ta 20 132 rfl rfl rfl rfl ?_
    simp only [sA, sB]
    clear HS
    refine td fun W8 HS => ?_
    go_wp2
    exact bodyPost_ret (v := .bool true) (by simp [results, Tryz.results5, go_sem]) rfl ⟨rfl, HS.out.below⟩
  ·replace h1 := hid h1
   go_upto_region 8 with fail
   refine lnb HS.out rfl ?_
   refine lc 0 8 #[] (.bool true) rfl rfl (by intro x hx; exact law_works_any _ (HT.out.up hx.below)) ?_
   simp only [sA, sB]
   refine la 1 105 rfl rfl rfl rfl ?_
   simp only [sA, sB]
   clear HS
   refine ld fun W6 HS => ?_
   go_wp2
   exact bodyPost_ret (v := .bool true) (by simp [results, Tryz.results5, go_sem]) rfl ⟨rfl, HS.out.below⟩
end Go.Proofs.YtdjgjeffdjjbiaaGreatDoor.Sp
