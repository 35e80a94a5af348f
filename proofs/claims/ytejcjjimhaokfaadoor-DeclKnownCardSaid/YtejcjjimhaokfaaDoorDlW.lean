/-
  The chapter's examples.
-/
import Derived.Test.YtejcjjimhaokfaaDoorDlI
namespace Go.Proofs.YtejcjjimhaokfaaDoor.Dcl
open Go.RowKit Go.Proofs.YtejcjjimhaokfaaDoor.Num Go.Proofs.YtejcjjimhaokfaaDoor.Up Go.Proofs.YtejcjjimhaokfaaDoor.Tn
set_option maxRecDepth 100000 in
set_option maxHeartbeats 4000000 in
theorem law_works_any     (w : World) (hT : Tn.Tab w) :
    Calls Tryd.prog 8 #[] w fun e w' => e = .returned (.bool true) ∧ Below w.heap.size w w' := by
  have HT := hid hT
  clear hT
  go_enter Tryd.func8, Tryd.ntmps8
  have HS := hid (st_nil w)
  -- region 1
  go_upto_region 1 with fail
  refine lin_begin (St w []) rfl HS.out ?_
  refine lin_val (i := 0) (v := .agg #[.int .i64 4, .int .i64 8, .int .i64 1, .int .i64 4, .int .i64 0]) rfl rfl (by rfl) (by intro x hx; go_simp; (first | done | exact rfl)) ?_
  simp only [List.set_cons_succ, List.set_cons_zero]
  refine lin_new (i := 1) rfl rfl (by rfl) [.int .i64 0, .int .i64 0, .int .i64 0, .int .i64 0, .int .i64 0] 30 (fun k => .pointer (some ⟨k, 0, none⟩)) [some (.int .i64 0), some (.int .i64 0), some (.int .i64 0), some (.int .i64 0), some (.int .i64 0)] (lessC_refl _) (by intro x hx; go_simp; (first | done | exact rfl)) (fun k1 => ?_)
  simp only [List.set_cons_succ, List.set_cons_zero]
  refine lin_store (i := 2) (St w [⟨k1, [some (.int .i64 4), some (.int .i64 8), some (.int .i64 1), some (.int .i64 4), some (.int .i64 0)], 30⟩]) rfl rfl (by rfl) (fun x => (((((x.setCell ⟨k1, 0, none⟩ (.int .i64 4)).setCell ⟨k1, 1, none⟩ (.int .i64 8)).setCell ⟨k1, 2, none⟩ (.int .i64 1)).setCell ⟨k1, 3, none⟩ (.int .i64 4)).setCell ⟨k1, 4, none⟩ (.int .i64 0))) (by intro x hx; obtain ⟨u0, z0⟩ := hx.has 0 0 rfl (by simp); have q0 := hx.soft 0 0 rfl; obtain ⟨u1, z1⟩ := hx.has 0 1 rfl (by simp); have q1 := hx.soft 0 1 rfl; obtain ⟨u2, z2⟩ := hx.has 0 2 rfl (by simp); have q2 := hx.soft 0 2 rfl; obtain ⟨u3, z3⟩ := hx.has 0 3 rfl (by simp); have q3 := hx.soft 0 3 rfl; obtain ⟨u4, z4⟩ := hx.has 0 4 rfl (by simp); have q4 := hx.soft 0 4 rfl; go_simp; (first | done | rfl)) (fun x hx => (((((hx.put 0 0 (.int .i64 4) rfl).put 0 1 (.int .i64 8) rfl).put 0 2 (.int .i64 1) rfl).put 0 3 (.int .i64 4) rfl).put 0 4 (.int .i64 0) rfl)) ?_
  refine lin_done ?_
  intro W1 hx
  replace HS := hid hx
  clear hx
  -- region 2
  go_upto_region 2 with fail
  refine lin_begin (St w [⟨k1, [some (.int .i64 4), some (.int .i64 8), some (.int .i64 1), some (.int .i64 4), some (.int .i64 0)], 30⟩]) rfl HS.out ?_
  refine lin_val (i := 0) (v := .agg #[.int .i64 4, .int .i64 8, .int .i64 1, .int .i64 4, .int .i64 0]) rfl rfl (by rfl) (by intro x hx; have f0 := hx.load 0 0 rfl rfl; have f1 := hx.load 0 1 rfl rfl; have f2 := hx.load 0 2 rfl rfl; have f3 := hx.load 0 3 rfl rfl; have f4 := hx.load 0 4 rfl rfl; go_simp; (first | done | exact rfl)) ?_
  simp only [List.set_cons_succ, List.set_cons_zero]
  refine lin_new (i := 1) rfl rfl (by rfl) [.int .i64 0, .int .i64 0, .int .i64 0, .int .i64 0, .int .i64 0] 30 (fun k => .pointer (some ⟨k, 0, none⟩)) [some (.int .i64 0), some (.int .i64 0), some (.int .i64 0), some (.int .i64 0), some (.int .i64 0)] (lessC_refl _) (by intro x hx; go_simp; (first | done | exact rfl)) (fun k2 => ?_)
  simp only [List.set_cons_succ, List.set_cons_zero]
  refine lin_store (i := 2) (St w [⟨k1, [some (.int .i64 4), some (.int .i64 8), some (.int .i64 1), some (.int .i64 4), some (.int .i64 0)], 30⟩, ⟨k2, [some (.int .i64 4), some (.int .i64 8), some (.int .i64 1), some (.int .i64 4), some (.int .i64 0)], 30⟩]) rfl rfl (by rfl) (fun x => (((((x.setCell ⟨k2, 0, none⟩ (.int .i64 4)).setCell ⟨k2, 1, none⟩ (.int .i64 8)).setCell ⟨k2, 2, none⟩ (.int .i64 1)).setCell ⟨k2, 3, none⟩ (.int .i64 4)).setCell ⟨k2, 4, none⟩ (.int .i64 0))) (by intro x hx; obtain ⟨u0, z0⟩ := hx.has 1 0 rfl (by simp); have q0 := hx.soft 1 0 rfl; obtain ⟨u1, z1⟩ := hx.has 1 1 rfl (by simp); have q1 := hx.soft 1 1 rfl; obtain ⟨u2, z2⟩ := hx.has 1 2 rfl (by simp); have q2 := hx.soft 1 2 rfl; obtain ⟨u3, z3⟩ := hx.has 1 3 rfl (by simp); have q3 := hx.soft 1 3 rfl; obtain ⟨u4, z4⟩ := hx.has 1 4 rfl (by simp); have q4 := hx.soft 1 4 rfl; go_simp; (first | done | rfl)) (fun x hx => (((((hx.put 1 0 (.int .i64 4) rfl).put 1 1 (.int .i64 8) rfl).put 1 2 (.int .i64 1) rfl).put 1 3 (.int .i64 4) rfl).put 1 4 (.int .i64 0) rfl)) ?_
  refine lin_done ?_
  intro W2 hx
  replace HS := hid hx
  clear hx
  -- region 3
  go_upto_region 3 with fail
  refine lin_begin (St w [⟨k1, [some (.int .i64 4), some (.int .i64 8), some (.int .i64 1), some (.int .i64 4), some (.int .i64 0)], 30⟩, ⟨k2, [some (.int .i64 4), some (.int .i64 8), some (.int .i64 1), some (.int .i64 4), some (.int .i64 0)], 30⟩]) rfl HS.out ?_
  refine lin_val (i := 0) (v := .pointer (some ⟨k2, 3, none⟩)) rfl rfl (by rfl) (by intro x hx; go_simp; (first | done | exact rfl)) ?_
  simp only [List.set_cons_succ, List.set_cons_zero]
  refine lin_store (i := 1) (St w [⟨k1, [some (.int .i64 4), some (.int .i64 8), some (.int .i64 1), some (.int .i64 4), some (.int .i64 0)], 30⟩, ⟨k2, [some (.int .i64 4), some (.int .i64 8), some (.int .i64 1), some (.int .i64 3), some (.int .i64 0)], 30⟩]) rfl rfl (by rfl) (fun x => (x.setCell ⟨k2, 3, none⟩ (.int .i64 3))) (by intro x hx; obtain ⟨u0, z0⟩ := hx.has 1 3 rfl (by simp); have q0 := hx.soft 1 3 rfl; go_simp; (first | done | rfl)) (fun x hx => (hx.put 1 3 (.int .i64 3) rfl)) ?_
  refine lin_done ?_
  intro W3 hx
  replace HS := hid hx
  clear hx
  -- region 4
  go_upto_region 4 with fail
  refine lin_begin (St w [⟨k1, [some (.int .i64 4), some (.int .i64 8), some (.int .i64 1), some (.int .i64 4), some (.int .i64 0)], 30⟩, ⟨k2, [some (.int .i64 4), some (.int .i64 8), some (.int .i64 1), some (.int .i64 3), some (.int .i64 0)], 30⟩]) rfl HS.out ?_
  refine lin_val (i := 0) (v := .agg #[.int .i64 1, .int .i64 4, .int .i64 1, .int .i64 0, .int .i64 0]) rfl rfl (by rfl) (by intro x hx; go_simp; (first | done | exact rfl)) ?_
  simp only [List.set_cons_succ, List.set_cons_zero]
  refine lin_new (i := 1) rfl rfl (by rfl) [.int .i64 0, .int .i64 0, .int .i64 0, .int .i64 0, .int .i64 0] 30 (fun k => .pointer (some ⟨k, 0, none⟩)) [some (.int .i64 0), some (.int .i64 0), some (.int .i64 0), some (.int .i64 0), some (.int .i64 0)] (lessC_refl _) (by intro x hx; go_simp; (first | done | exact rfl)) (fun k3 => ?_)
  simp only [List.set_cons_succ, List.set_cons_zero]
  refine lin_store (i := 2) (St w [⟨k1, [some (.int .i64 4), some (.int .i64 8), some (.int .i64 1), some (.int .i64 4), some (.int .i64 0)], 30⟩, ⟨k2, [some (.int .i64 4), some (.int .i64 8), some (.int .i64 1), some (.int .i64 3), some (.int .i64 0)], 30⟩, ⟨k3, [some (.int .i64 1), some (.int .i64 4), some (.int .i64 1), some (.int .i64 0), some (.int .i64 0)], 30⟩]) rfl rfl (by rfl) (fun x => (((((x.setCell ⟨k3, 0, none⟩ (.int .i64 1)).setCell ⟨k3, 1, none⟩ (.int .i64 4)).setCell ⟨k3, 2, none⟩ (.int .i64 1)).setCell ⟨k3, 3, none⟩ (.int .i64 0)).setCell ⟨k3, 4, none⟩ (.int .i64 0))) (by intro x hx; obtain ⟨u0, z0⟩ := hx.has 2 0 rfl (by simp); have q0 := hx.soft 2 0 rfl; obtain ⟨u1, z1⟩ := hx.has 2 1 rfl (by simp); have q1 := hx.soft 2 1 rfl; obtain ⟨u2, z2⟩ := hx.has 2 2 rfl (by simp); have q2 := hx.soft 2 2 rfl; obtain ⟨u3, z3⟩ := hx.has 2 3 rfl (by simp); have q3 := hx.soft 2 3 rfl; obtain ⟨u4, z4⟩ := hx.has 2 4 rfl (by simp); have q4 := hx.soft 2 4 rfl; go_simp; (first | done | rfl)) (fun x hx => (((((hx.put 2 0 (.int .i64 1) rfl).put 2 1 (.int .i64 4) rfl).put 2 2 (.int .i64 1) rfl).put 2 3 (.int .i64 0) rfl).put 2 4 (.int .i64 0) rfl)) ?_
  refine lin_done ?_
  intro W4 hx
  replace HS := hid hx
  clear hx
  -- region 5
  go_upto_region 5 with fail
  refine lin_begin (St w [⟨k1, [some (.int .i64 4), some (.int .i64 8), some (.int .i64 1), some (.int .i64 4), some (.int .i64 0)], 30⟩, ⟨k2, [some (.int .i64 4), some (.int .i64 8), some (.int .i64 1), some (.int .i64 3), some (.int .i64 0)], 30⟩, ⟨k3, [some (.int .i64 1), some (.int .i64 4), some (.int .i64 1), some (.int .i64 0), some (.int .i64 0)], 30⟩]) rfl HS.out ?_
  refine lin_val (i := 0) (v := .agg #[.int .i64 9, .int .i64 2, .int .i64 1, .int .i64 0, .int .i64 2]) rfl rfl (by rfl) (by intro x hx; go_simp; (first | done | exact rfl)) ?_
  simp only [List.set_cons_succ, List.set_cons_zero]
  refine lin_new (i := 1) rfl rfl (by rfl) [.int .i64 0, .int .i64 0, .int .i64 0, .int .i64 0, .int .i64 0] 30 (fun k => .pointer (some ⟨k, 0, none⟩)) [some (.int .i64 0), some (.int .i64 0), some (.int .i64 0), some (.int .i64 0), some (.int .i64 0)] (lessC_refl _) (by intro x hx; go_simp; (first | done | exact rfl)) (fun k4 => ?_)
  simp only [List.set_cons_succ, List.set_cons_zero]
  refine lin_store (i := 2) (St w [⟨k1, [some (.int .i64 4), some (.int .i64 8), some (.int .i64 1), some (.int .i64 4), some (.int .i64 0)], 30⟩, ⟨k2, [some (.int .i64 4), some (.int .i64 8), some (.int .i64 1), some (.int .i64 3), some (.int .i64 0)], 30⟩, ⟨k3, [some (.int .i64 1), some (.int .i64 4), some (.int .i64 1), some (.int .i64 0), some (.int .i64 0)], 30⟩, ⟨k4, [some (.int .i64 9), some (.int .i64 2), some (.int .i64 1), some (.int .i64 0), some (.int .i64 2)], 30⟩]) rfl rfl (by rfl) (fun x => (((((x.setCell ⟨k4, 0, none⟩ (.int .i64 9)).setCell ⟨k4, 1, none⟩ (.int .i64 2)).setCell ⟨k4, 2, none⟩ (.int .i64 1)).setCell ⟨k4, 3, none⟩ (.int .i64 0)).setCell ⟨k4, 4, none⟩ (.int .i64 2))) (by intro x hx; obtain ⟨u0, z0⟩ := hx.has 3 0 rfl (by simp); have q0 := hx.soft 3 0 rfl; obtain ⟨u1, z1⟩ := hx.has 3 1 rfl (by simp); have q1 := hx.soft 3 1 rfl; obtain ⟨u2, z2⟩ := hx.has 3 2 rfl (by simp); have q2 := hx.soft 3 2 rfl; obtain ⟨u3, z3⟩ := hx.has 3 3 rfl (by simp); have q3 := hx.soft 3 3 rfl; obtain ⟨u4, z4⟩ := hx.has 3 4 rfl (by simp); have q4 := hx.soft 3 4 rfl; go_simp; (first | done | rfl)) (fun x hx => (((((hx.put 3 0 (.int .i64 9) rfl).put 3 1 (.int .i64 2) rfl).put 3 2 (.int .i64 1) rfl).put 3 3 (.int .i64 0) rfl).put 3 4 (.int .i64 2) rfl)) ?_
  refine lin_done ?_
  intro W5 hx
  replace HS := hid hx
  clear hx
  -- region 6
  go_upto_region 6 with fail
  refine lin_begin (St w [⟨k1, [some (.int .i64 4), some (.int .i64 8), some (.int .i64 1), some (.int .i64 4), some (.int .i64 0)], 30⟩, ⟨k2, [some (.int .i64 4), some (.int .i64 8), some (.int .i64 1), some (.int .i64 3), some (.int .i64 0)], 30⟩, ⟨k3, [some (.int .i64 1), some (.int .i64 4), some (.int .i64 1), some (.int .i64 0), some (.int .i64 0)], 30⟩, ⟨k4, [some (.int .i64 9), some (.int .i64 2), some (.int .i64 1), some (.int .i64 0), some (.int .i64 2)], 30⟩]) rfl HS.out ?_
  refine lin_val (i := 0) (v := .agg #[.int .i64 9, .int .i64 2, .int .i64 1, .int .i64 0, .int .i64 2]) rfl rfl (by rfl) (by intro x hx; have f0 := hx.load 3 0 rfl rfl; have f1 := hx.load 3 1 rfl rfl; have f2 := hx.load 3 2 rfl rfl; have f3 := hx.load 3 3 rfl rfl; have f4 := hx.load 3 4 rfl rfl; go_simp; (first | done | exact rfl)) ?_
  simp only [List.set_cons_succ, List.set_cons_zero]
  refine lin_new (i := 1) rfl rfl (by rfl) [.int .i64 0, .int .i64 0, .int .i64 0, .int .i64 0, .int .i64 0] 30 (fun k => .pointer (some ⟨k, 0, none⟩)) [some (.int .i64 0), some (.int .i64 0), some (.int .i64 0), some (.int .i64 0), some (.int .i64 0)] (lessC_refl _) (by intro x hx; go_simp; (first | done | exact rfl)) (fun k5 => ?_)
  simp only [List.set_cons_succ, List.set_cons_zero]
  refine lin_store (i := 2) (St w [⟨k1, [some (.int .i64 4), some (.int .i64 8), some (.int .i64 1), some (.int .i64 4), some (.int .i64 0)], 30⟩, ⟨k2, [some (.int .i64 4), some (.int .i64 8), some (.int .i64 1), some (.int .i64 3), some (.int .i64 0)], 30⟩, ⟨k3, [some (.int .i64 1), some (.int .i64 4), some (.int .i64 1), some (.int .i64 0), some (.int .i64 0)], 30⟩, ⟨k4, [some (.int .i64 9), some (.int .i64 2), some (.int .i64 1), some (.int .i64 0), some (.int .i64 2)], 30⟩, ⟨k5, [some (.int .i64 9), some (.int .i64 2), some (.int .i64 1), some (.int .i64 0), some (.int .i64 2)], 30⟩]) rfl rfl (by rfl) (fun x => (((((x.setCell ⟨k5, 0, none⟩ (.int .i64 9)).setCell ⟨k5, 1, none⟩ (.int .i64 2)).setCell ⟨k5, 2, none⟩ (.int .i64 1)).setCell ⟨k5, 3, none⟩ (.int .i64 0)).setCell ⟨k5, 4, none⟩ (.int .i64 2))) (by intro x hx; obtain ⟨u0, z0⟩ := hx.has 4 0 rfl (by simp); have q0 := hx.soft 4 0 rfl; obtain ⟨u1, z1⟩ := hx.has 4 1 rfl (by simp); have q1 := hx.soft 4 1 rfl; obtain ⟨u2, z2⟩ := hx.has 4 2 rfl (by simp); have q2 := hx.soft 4 2 rfl; obtain ⟨u3, z3⟩ := hx.has 4 3 rfl (by simp); have q3 := hx.soft 4 3 rfl; obtain ⟨u4, z4⟩ := hx.has 4 4 rfl (by simp); have q4 := hx.soft 4 4 rfl; go_simp; (first | done | rfl)) (fun x hx => (((((hx.put 4 0 (.int .i64 9) rfl).put 4 1 (.int .i64 2) rfl).put 4 2 (.int .i64 1) rfl).put 4 3 (.int .i64 0) rfl).put 4 4 (.int .i64 2) rfl)) ?_
  refine lin_done ?_
  intro W6 hx
  replace HS := hid hx
  clear hx
  -- region 7
  go_upto_region 7 with fail
  refine lin_begin (St w [⟨k1, [some (.int .i64 4), some (.int .i64 8), some (.int .i64 1), some (.int .i64 4), some (.int .i64 0)], 30⟩, ⟨k2, [some (.int .i64 4), some (.int .i64 8), some (.int .i64 1), some (.int .i64 3), some (.int .i64 0)], 30⟩, ⟨k3, [some (.int .i64 1), some (.int .i64 4), some (.int .i64 1), some (.int .i64 0), some (.int .i64 0)], 30⟩, ⟨k4, [some (.int .i64 9), some (.int .i64 2), some (.int .i64 1), some (.int .i64 0), some (.int .i64 2)], 30⟩, ⟨k5, [some (.int .i64 9), some (.int .i64 2), some (.int .i64 1), some (.int .i64 0), some (.int .i64 2)], 30⟩]) rfl HS.out ?_
  refine lin_val (i := 0) (v := .pointer (some ⟨k5, 4, none⟩)) rfl rfl (by rfl) (by intro x hx; go_simp; (first | done | exact rfl)) ?_
  simp only [List.set_cons_succ, List.set_cons_zero]
  refine lin_store (i := 1) (St w [⟨k1, [some (.int .i64 4), some (.int .i64 8), some (.int .i64 1), some (.int .i64 4), some (.int .i64 0)], 30⟩, ⟨k2, [some (.int .i64 4), some (.int .i64 8), some (.int .i64 1), some (.int .i64 3), some (.int .i64 0)], 30⟩, ⟨k3, [some (.int .i64 1), some (.int .i64 4), some (.int .i64 1), some (.int .i64 0), some (.int .i64 0)], 30⟩, ⟨k4, [some (.int .i64 9), some (.int .i64 2), some (.int .i64 1), some (.int .i64 0), some (.int .i64 2)], 30⟩, ⟨k5, [some (.int .i64 9), some (.int .i64 2), some (.int .i64 1), some (.int .i64 0), some (.int .i64 1)], 30⟩]) rfl rfl (by rfl) (fun x => (x.setCell ⟨k5, 4, none⟩ (.int .i64 1))) (by intro x hx; obtain ⟨u0, z0⟩ := hx.has 4 4 rfl (by simp); have q0 := hx.soft 4 4 rfl; go_simp; (first | done | rfl)) (fun x hx => (hx.put 4 4 (.int .i64 1) rfl)) ?_
  refine lin_done ?_
  intro W7 hx
  replace HS := hid hx
  clear hx
  -- region 8
  go_upto_region 8 with fail
  refine lin_begin (St w [⟨k1, [some (.int .i64 4), some (.int .i64 8), some (.int .i64 1), some (.int .i64 4), some (.int .i64 0)], 30⟩, ⟨k2, [some (.int .i64 4), some (.int .i64 8), some (.int .i64 1), some (.int .i64 3), some (.int .i64 0)], 30⟩, ⟨k3, [some (.int .i64 1), some (.int .i64 4), some (.int .i64 1), some (.int .i64 0), some (.int .i64 0)], 30⟩, ⟨k4, [some (.int .i64 9), some (.int .i64 2), some (.int .i64 1), some (.int .i64 0), some (.int .i64 2)], 30⟩, ⟨k5, [some (.int .i64 9), some (.int .i64 2), some (.int .i64 1), some (.int .i64 0), some (.int .i64 1)], 30⟩]) rfl HS.out ?_
  refine lin_val (i := 0) (v := .agg #[.int .i64 4, .int .i64 8, .int .i64 1, .int .i64 4, .int .i64 0]) rfl rfl (by rfl) (by intro x hx; have f0 := hx.load 0 0 rfl rfl; have f1 := hx.load 0 1 rfl rfl; have f2 := hx.load 0 2 rfl rfl; have f3 := hx.load 0 3 rfl rfl; have f4 := hx.load 0 4 rfl rfl; go_simp; (first | done | exact rfl)) ?_
  simp only [List.set_cons_succ, List.set_cons_zero]
  refine lin_new (i := 1) rfl rfl (by rfl) [.int .i64 4, .int .i64 8, .int .i64 1, .int .i64 4, .int .i64 0] 30 (fun k => .slice (some ⟨k, 0, none⟩) 1 1) [some (.int .i64 4), some (.int .i64 8), some (.int .i64 1), some (.int .i64 4), some (.int .i64 0)] (lessC_refl _) (by intro x hx; go_simp; (first | done | exact rfl)) (fun k6 => ?_)
  simp only [List.set_cons_succ, List.set_cons_zero]
  refine lin_call (i := 2) (f := 10) (args := #[.slice (some ⟨k6, 0, none⟩) 1 1]) (v := .int .i64 (ti (chkD [Dc.mk 4#64 8#64 1#64 4#64 0#64]))) (st_ups _ _) rfl rfl (by rfl) (fun x hx => by kernel_rfl) (by intro x hx; exact check_any [Dc.mk 4#64 8#64 1#64 4#64 0#64] _ 1 1 x (arg_st hx 5 rfl [Dc.mk 4#64 8#64 1#64 4#64 0#64] (by rfl)) (HT.out.up hx.below)) ?_
  simp only [List.set_cons_succ, List.set_cons_zero]
  refine lin_val (i := 3) (v := .bool true) rfl rfl (by rfl) (by intro x hx; go_simp; (first | done | (first | exact (show ((chkD [Dc.mk 4#64 8#64 1#64 4#64 0#64]) == 0#64) = true by decide +kernel) | exact eq_of_beq ((show ((chkD [Dc.mk 4#64 8#64 1#64 4#64 0#64]) == 0#64) = true by decide +kernel)) | exact congrArg _ ((show ((chkD [Dc.mk 4#64 8#64 1#64 4#64 0#64]) == 0#64) = true by decide +kernel)) | (rw [(show ((chkD [Dc.mk 4#64 8#64 1#64 4#64 0#64]) == 0#64) = true by decide +kernel)]; done) | ((first | rfl | exact eqIT (chkD [Dc.mk 4#64 8#64 1#64 4#64 0#64]) 0#64 | exact congrArg _ (eqIT (chkD [Dc.mk 4#64 8#64 1#64 4#64 0#64]) 0#64) | (rw [eqIT (chkD [Dc.mk 4#64 8#64 1#64 4#64 0#64]) 0#64]; done) | (rw [eqIT (chkD [Dc.mk 4#64 8#64 1#64 4#64 0#64]) 0#64]; rfl)); rw [(show ((chkD [Dc.mk 4#64 8#64 1#64 4#64 0#64]) == 0#64) = true by decide +kernel)]) | exact congrArg tn (eq_of_beq ((show ((chkD [Dc.mk 4#64 8#64 1#64 4#64 0#64]) == 0#64) = true by decide +kernel))) | exact congrArg ti (eq_of_beq ((show ((chkD [Dc.mk 4#64 8#64 1#64 4#64 0#64]) == 0#64) = true by decide +kernel))) | exact congrArg tn (eq_of_bne ((show ((chkD [Dc.mk 4#64 8#64 1#64 4#64 0#64]) == 0#64) = true by decide +kernel))) | simpa using ((show ((chkD [Dc.mk 4#64 8#64 1#64 4#64 0#64]) == 0#64) = true by decide +kernel))))) ?_
  simp only [List.set_cons_succ, List.set_cons_zero]
  refine lin_val (i := 4) (v := .bool true) rfl rfl (by rfl) (by intro x hx; go_simp; (first | done | exact rfl)) ?_
  simp only [List.set_cons_succ, List.set_cons_zero]
  refine lin_val (i := 5) (v := .agg #[.int .i64 4, .int .i64 8, .int .i64 1, .int .i64 3, .int .i64 0]) rfl rfl (by rfl) (by intro x hx; have f0 := hx.load 1 0 rfl rfl; have f1 := hx.load 1 1 rfl rfl; have f2 := hx.load 1 2 rfl rfl; have f3 := hx.load 1 3 rfl rfl; have f4 := hx.load 1 4 rfl rfl; go_simp; (first | done | exact rfl)) ?_
  simp only [List.set_cons_succ, List.set_cons_zero]
  refine lin_new (i := 6) rfl rfl (by rfl) [.int .i64 4, .int .i64 8, .int .i64 1, .int .i64 3, .int .i64 0] 30 (fun k => .slice (some ⟨k, 0, none⟩) 1 1) [some (.int .i64 4), some (.int .i64 8), some (.int .i64 1), some (.int .i64 3), some (.int .i64 0)] (lessC_refl _) (by intro x hx; go_simp; (first | done | exact rfl)) (fun k7 => ?_)
  simp only [List.set_cons_succ, List.set_cons_zero]
  refine lin_call (i := 7) (f := 10) (args := #[.slice (some ⟨k7, 0, none⟩) 1 1]) (v := .int .i64 (ti (chkD [Dc.mk 4#64 8#64 1#64 3#64 0#64]))) (st_ups _ _) rfl rfl (by rfl) (fun x hx => by kernel_rfl) (by intro x hx; exact check_any [Dc.mk 4#64 8#64 1#64 3#64 0#64] _ 1 1 x (arg_st hx 6 rfl [Dc.mk 4#64 8#64 1#64 3#64 0#64] (by rfl)) (HT.out.up hx.below)) ?_
  simp only [List.set_cons_succ, List.set_cons_zero]
  refine lin_val (i := 8) (v := .bool true) rfl rfl (by rfl) (by intro x hx; go_simp; (first | done | (first | exact (show ((chkD [Dc.mk 4#64 8#64 1#64 3#64 0#64]) == 1#64) = true by decide +kernel) | exact eq_of_beq ((show ((chkD [Dc.mk 4#64 8#64 1#64 3#64 0#64]) == 1#64) = true by decide +kernel)) | exact congrArg _ ((show ((chkD [Dc.mk 4#64 8#64 1#64 3#64 0#64]) == 1#64) = true by decide +kernel)) | (rw [(show ((chkD [Dc.mk 4#64 8#64 1#64 3#64 0#64]) == 1#64) = true by decide +kernel)]; done) | ((first | rfl | exact eqIT (chkD [Dc.mk 4#64 8#64 1#64 3#64 0#64]) 1#64 | exact congrArg _ (eqIT (chkD [Dc.mk 4#64 8#64 1#64 3#64 0#64]) 1#64) | (rw [eqIT (chkD [Dc.mk 4#64 8#64 1#64 3#64 0#64]) 1#64]; done) | (rw [eqIT (chkD [Dc.mk 4#64 8#64 1#64 3#64 0#64]) 1#64]; rfl)); rw [(show ((chkD [Dc.mk 4#64 8#64 1#64 3#64 0#64]) == 1#64) = true by decide +kernel)]) | exact congrArg tn (eq_of_beq ((show ((chkD [Dc.mk 4#64 8#64 1#64 3#64 0#64]) == 1#64) = true by decide +kernel))) | exact congrArg ti (eq_of_beq ((show ((chkD [Dc.mk 4#64 8#64 1#64 3#64 0#64]) == 1#64) = true by decide +kernel))) | exact congrArg tn (eq_of_bne ((show ((chkD [Dc.mk 4#64 8#64 1#64 3#64 0#64]) == 1#64) = true by decide +kernel))) | simpa using ((show ((chkD [Dc.mk 4#64 8#64 1#64 3#64 0#64]) == 1#64) = true by decide +kernel))))) ?_
  simp only [List.set_cons_succ, List.set_cons_zero]
  refine lin_val (i := 9) (v := .bool true) rfl rfl (by rfl) (by intro x hx; go_simp; (first | done | exact rfl)) ?_
  simp only [List.set_cons_succ, List.set_cons_zero]
  refine lin_val (i := 10) (v := .bool true) rfl rfl (by rfl) (by intro x hx; go_simp; (first | done | exact rfl)) ?_
  simp only [List.set_cons_succ, List.set_cons_zero]
  refine lin_val (i := 11) (v := .agg #[.int .i64 9, .int .i64 2, .int .i64 1, .int .i64 0, .int .i64 2]) rfl rfl (by rfl) (by intro x hx; have f0 := hx.load 3 0 rfl rfl; have f1 := hx.load 3 1 rfl rfl; have f2 := hx.load 3 2 rfl rfl; have f3 := hx.load 3 3 rfl rfl; have f4 := hx.load 3 4 rfl rfl; go_simp; (first | done | exact rfl)) ?_
  simp only [List.set_cons_succ, List.set_cons_zero]
  refine lin_val (i := 12) (v := .agg #[.int .i64 1, .int .i64 4, .int .i64 1, .int .i64 0, .int .i64 0]) rfl rfl (by rfl) (by intro x hx; have f0 := hx.load 2 0 rfl rfl; have f1 := hx.load 2 1 rfl rfl; have f2 := hx.load 2 2 rfl rfl; have f3 := hx.load 2 3 rfl rfl; have f4 := hx.load 2 4 rfl rfl; go_simp; (first | done | exact rfl)) ?_
  simp only [List.set_cons_succ, List.set_cons_zero]
  refine lin_new (i := 13) rfl rfl (by rfl) [.int .i64 9, .int .i64 2, .int .i64 1, .int .i64 0, .int .i64 2, .int .i64 1, .int .i64 4, .int .i64 1, .int .i64 0, .int .i64 0] 30 (fun k => .slice (some ⟨k, 0, none⟩) 2 2) [some (.int .i64 9), some (.int .i64 2), some (.int .i64 1), some (.int .i64 0), some (.int .i64 2), some (.int .i64 1), some (.int .i64 4), some (.int .i64 1), some (.int .i64 0), some (.int .i64 0)] (lessC_refl _) (by intro x hx; go_simp; (first | done | exact rfl)) (fun k8 => ?_)
  simp only [List.set_cons_succ, List.set_cons_zero]
  refine lin_call (i := 14) (f := 10) (args := #[.slice (some ⟨k8, 0, none⟩) 2 2]) (v := .int .i64 (ti (chkD [Dc.mk 9#64 2#64 1#64 0#64 2#64, Dc.mk 1#64 4#64 1#64 0#64 0#64]))) (st_ups _ _) rfl rfl (by rfl) (fun x hx => by kernel_rfl) (by intro x hx; exact check_any [Dc.mk 9#64 2#64 1#64 0#64 2#64, Dc.mk 1#64 4#64 1#64 0#64 0#64] _ 2 2 x (arg_st hx 7 rfl [Dc.mk 9#64 2#64 1#64 0#64 2#64, Dc.mk 1#64 4#64 1#64 0#64 0#64] (by rfl)) (HT.out.up hx.below)) ?_
  simp only [List.set_cons_succ, List.set_cons_zero]
  refine lin_val (i := 15) (v := .bool true) rfl rfl (by rfl) (by intro x hx; go_simp; (first | done | (first | exact (show ((chkD [Dc.mk 9#64 2#64 1#64 0#64 2#64, Dc.mk 1#64 4#64 1#64 0#64 0#64]) == 0#64) = true by decide +kernel) | exact eq_of_beq ((show ((chkD [Dc.mk 9#64 2#64 1#64 0#64 2#64, Dc.mk 1#64 4#64 1#64 0#64 0#64]) == 0#64) = true by decide +kernel)) | exact congrArg _ ((show ((chkD [Dc.mk 9#64 2#64 1#64 0#64 2#64, Dc.mk 1#64 4#64 1#64 0#64 0#64]) == 0#64) = true by decide +kernel)) | (rw [(show ((chkD [Dc.mk 9#64 2#64 1#64 0#64 2#64, Dc.mk 1#64 4#64 1#64 0#64 0#64]) == 0#64) = true by decide +kernel)]; done) | ((first | rfl | exact eqIT (chkD [Dc.mk 9#64 2#64 1#64 0#64 2#64, Dc.mk 1#64 4#64 1#64 0#64 0#64]) 0#64 | exact congrArg _ (eqIT (chkD [Dc.mk 9#64 2#64 1#64 0#64 2#64, Dc.mk 1#64 4#64 1#64 0#64 0#64]) 0#64) | (rw [eqIT (chkD [Dc.mk 9#64 2#64 1#64 0#64 2#64, Dc.mk 1#64 4#64 1#64 0#64 0#64]) 0#64]; done) | (rw [eqIT (chkD [Dc.mk 9#64 2#64 1#64 0#64 2#64, Dc.mk 1#64 4#64 1#64 0#64 0#64]) 0#64]; rfl)); rw [(show ((chkD [Dc.mk 9#64 2#64 1#64 0#64 2#64, Dc.mk 1#64 4#64 1#64 0#64 0#64]) == 0#64) = true by decide +kernel)]) | exact congrArg tn (eq_of_beq ((show ((chkD [Dc.mk 9#64 2#64 1#64 0#64 2#64, Dc.mk 1#64 4#64 1#64 0#64 0#64]) == 0#64) = true by decide +kernel))) | exact congrArg ti (eq_of_beq ((show ((chkD [Dc.mk 9#64 2#64 1#64 0#64 2#64, Dc.mk 1#64 4#64 1#64 0#64 0#64]) == 0#64) = true by decide +kernel))) | exact congrArg tn (eq_of_bne ((show ((chkD [Dc.mk 9#64 2#64 1#64 0#64 2#64, Dc.mk 1#64 4#64 1#64 0#64 0#64]) == 0#64) = true by decide +kernel))) | simpa using ((show ((chkD [Dc.mk 9#64 2#64 1#64 0#64 2#64, Dc.mk 1#64 4#64 1#64 0#64 0#64]) == 0#64) = true by decide +kernel))))) ?_
  simp only [List.set_cons_succ, List.set_cons_zero]
  refine lin_val (i := 16) (v := .bool true) rfl rfl (by rfl) (by intro x hx; go_simp; (first | done | exact rfl)) ?_
  simp only [List.set_cons_succ, List.set_cons_zero]
  refine lin_val (i := 17) (v := .bool true) rfl rfl (by rfl) (by intro x hx; go_simp; (first | done | exact rfl)) ?_
  simp only [List.set_cons_succ, List.set_cons_zero]
  refine lin_val (i := 18) (v := .agg #[.int .i64 9, .int .i64 2, .int .i64 1, .int .i64 0, .int .i64 1]) rfl rfl (by rfl) (by intro x hx; have f0 := hx.load 4 0 rfl rfl; have f1 := hx.load 4 1 rfl rfl; have f2 := hx.load 4 2 rfl rfl; have f3 := hx.load 4 3 rfl rfl; have f4 := hx.load 4 4 rfl rfl; go_simp; (first | done | exact rfl)) ?_
  simp only [List.set_cons_succ, List.set_cons_zero]
  refine lin_val (i := 19) (v := .agg #[.int .i64 1, .int .i64 4, .int .i64 1, .int .i64 0, .int .i64 0]) rfl rfl (by rfl) (by intro x hx; have f0 := hx.load 2 0 rfl rfl; have f1 := hx.load 2 1 rfl rfl; have f2 := hx.load 2 2 rfl rfl; have f3 := hx.load 2 3 rfl rfl; have f4 := hx.load 2 4 rfl rfl; go_simp; (first | done | exact rfl)) ?_
  simp only [List.set_cons_succ, List.set_cons_zero]
  refine lin_new (i := 20) rfl rfl (by rfl) [.int .i64 9, .int .i64 2, .int .i64 1, .int .i64 0, .int .i64 1, .int .i64 1, .int .i64 4, .int .i64 1, .int .i64 0, .int .i64 0] 30 (fun k => .slice (some ⟨k, 0, none⟩) 2 2) [some (.int .i64 9), some (.int .i64 2), some (.int .i64 1), some (.int .i64 0), some (.int .i64 1), some (.int .i64 1), some (.int .i64 4), some (.int .i64 1), some (.int .i64 0), some (.int .i64 0)] (lessC_refl _) (by intro x hx; go_simp; (first | done | exact rfl)) (fun k9 => ?_)
  simp only [List.set_cons_succ, List.set_cons_zero]
  refine lin_call (i := 21) (f := 10) (args := #[.slice (some ⟨k9, 0, none⟩) 2 2]) (v := .int .i64 (ti (chkD [Dc.mk 9#64 2#64 1#64 0#64 1#64, Dc.mk 1#64 4#64 1#64 0#64 0#64]))) (st_ups _ _) rfl rfl (by rfl) (fun x hx => by kernel_rfl) (by intro x hx; exact check_any [Dc.mk 9#64 2#64 1#64 0#64 1#64, Dc.mk 1#64 4#64 1#64 0#64 0#64] _ 2 2 x (arg_st hx 8 rfl [Dc.mk 9#64 2#64 1#64 0#64 1#64, Dc.mk 1#64 4#64 1#64 0#64 0#64] (by rfl)) (HT.out.up hx.below)) ?_
  simp only [List.set_cons_succ, List.set_cons_zero]
  refine lin_val (i := 22) (v := .bool true) rfl rfl (by rfl) (by intro x hx; go_simp; (first | done | (first | exact (show ((chkD [Dc.mk 9#64 2#64 1#64 0#64 1#64, Dc.mk 1#64 4#64 1#64 0#64 0#64]) == 14#64) = true by decide +kernel) | exact eq_of_beq ((show ((chkD [Dc.mk 9#64 2#64 1#64 0#64 1#64, Dc.mk 1#64 4#64 1#64 0#64 0#64]) == 14#64) = true by decide +kernel)) | exact congrArg _ ((show ((chkD [Dc.mk 9#64 2#64 1#64 0#64 1#64, Dc.mk 1#64 4#64 1#64 0#64 0#64]) == 14#64) = true by decide +kernel)) | (rw [(show ((chkD [Dc.mk 9#64 2#64 1#64 0#64 1#64, Dc.mk 1#64 4#64 1#64 0#64 0#64]) == 14#64) = true by decide +kernel)]; done) | ((first | rfl | exact eqIT (chkD [Dc.mk 9#64 2#64 1#64 0#64 1#64, Dc.mk 1#64 4#64 1#64 0#64 0#64]) 14#64 | exact congrArg _ (eqIT (chkD [Dc.mk 9#64 2#64 1#64 0#64 1#64, Dc.mk 1#64 4#64 1#64 0#64 0#64]) 14#64) | (rw [eqIT (chkD [Dc.mk 9#64 2#64 1#64 0#64 1#64, Dc.mk 1#64 4#64 1#64 0#64 0#64]) 14#64]; done) | (rw [eqIT (chkD [Dc.mk 9#64 2#64 1#64 0#64 1#64, Dc.mk 1#64 4#64 1#64 0#64 0#64]) 14#64]; rfl)); rw [(show ((chkD [Dc.mk 9#64 2#64 1#64 0#64 1#64, Dc.mk 1#64 4#64 1#64 0#64 0#64]) == 14#64) = true by decide +kernel)]) | exact congrArg tn (eq_of_beq ((show ((chkD [Dc.mk 9#64 2#64 1#64 0#64 1#64, Dc.mk 1#64 4#64 1#64 0#64 0#64]) == 14#64) = true by decide +kernel))) | exact congrArg ti (eq_of_beq ((show ((chkD [Dc.mk 9#64 2#64 1#64 0#64 1#64, Dc.mk 1#64 4#64 1#64 0#64 0#64]) == 14#64) = true by decide +kernel))) | exact congrArg tn (eq_of_bne ((show ((chkD [Dc.mk 9#64 2#64 1#64 0#64 1#64, Dc.mk 1#64 4#64 1#64 0#64 0#64]) == 14#64) = true by decide +kernel))) | simpa using ((show ((chkD [Dc.mk 9#64 2#64 1#64 0#64 1#64, Dc.mk 1#64 4#64 1#64 0#64 0#64]) == 14#64) = true by decide +kernel))))) ?_
  simp only [List.set_cons_succ, List.set_cons_zero]
  refine lin_val (i := 23) (v := .bool true) rfl rfl (by rfl) (by intro x hx; go_simp; (first | done | exact rfl)) ?_
  simp only [List.set_cons_succ, List.set_cons_zero]
  refine lin_val (i := 24) (v := .bool true) rfl rfl (by rfl) (by intro x hx; go_simp; (first | done | exact rfl)) ?_
  simp only [List.set_cons_succ, List.set_cons_zero]
  refine lin_call (i := 25) (f := 19) (args := #[.int .u64 (tn (1#64)), .int .i64 (ti (8#64))]) (v := .int .i64 (ti (decl_Bucket 1#64 8#64))) (st_ups _ _) rfl rfl (by rfl) (fun x hx => by kernel_rfl) (by intro x hx; exact decl_Bucket_any 1#64 8#64 _) ?_
  simp only [List.set_cons_succ, List.set_cons_zero]
  refine lin_val (i := 26) (v := .bool true) rfl rfl (by rfl) (by intro x hx; go_simp; (first | done | (first | exact (show ((decl_Bucket 1#64 8#64) == 1#64) = true by decide +kernel) | exact eq_of_beq ((show ((decl_Bucket 1#64 8#64) == 1#64) = true by decide +kernel)) | exact congrArg _ ((show ((decl_Bucket 1#64 8#64) == 1#64) = true by decide +kernel)) | (rw [(show ((decl_Bucket 1#64 8#64) == 1#64) = true by decide +kernel)]; done) | ((first | rfl | exact eqIT (decl_Bucket 1#64 8#64) 1#64 | exact congrArg _ (eqIT (decl_Bucket 1#64 8#64) 1#64) | (rw [eqIT (decl_Bucket 1#64 8#64) 1#64]; done) | (rw [eqIT (decl_Bucket 1#64 8#64) 1#64]; rfl)); rw [(show ((decl_Bucket 1#64 8#64) == 1#64) = true by decide +kernel)]) | exact congrArg tn (eq_of_beq ((show ((decl_Bucket 1#64 8#64) == 1#64) = true by decide +kernel))) | exact congrArg ti (eq_of_beq ((show ((decl_Bucket 1#64 8#64) == 1#64) = true by decide +kernel))) | exact congrArg tn (eq_of_bne ((show ((decl_Bucket 1#64 8#64) == 1#64) = true by decide +kernel))) | simpa using ((show ((decl_Bucket 1#64 8#64) == 1#64) = true by decide +kernel))))) ?_
  simp only [List.set_cons_succ, List.set_cons_zero]
  refine lin_val (i := 27) (v := .bool true) rfl rfl (by rfl) (by intro x hx; go_simp; (first | done | exact rfl)) ?_
  simp only [List.set_cons_succ, List.set_cons_zero]
  refine lin_val (i := 28) (v := .bool true) rfl rfl (by rfl) (by intro x hx; go_simp; (first | done | exact rfl)) ?_
  simp only [List.set_cons_succ, List.set_cons_zero]
  refine lin_call (i := 29) (f := 17) (args := #[.int .i64 (ti (6#64)), .int .i64 (ti (1#64))]) (v := .bool false) (st_ups _ _) rfl rfl (by rfl) (fun x hx => by kernel_rfl) (by intro x hx; exact calls_is (decl_May_any 6#64 1#64 _ (HT.out.up hx.below)) (congrArg Value.bool ((show (decl_May 6#64 1#64) = false by decide +kernel)))) ?_
  simp only [List.set_cons_succ, List.set_cons_zero]
  refine lin_val (i := 30) (v := .bool true) rfl rfl (by rfl) (by intro x hx; go_simp; (first | done | exact rfl)) ?_
  simp only [List.set_cons_succ, List.set_cons_zero]
  refine lin_val (i := 31) (v := .bool true) rfl rfl (by rfl) (by intro x hx; go_simp; (first | done | exact rfl)) ?_
  simp only [List.set_cons_succ, List.set_cons_zero]
  refine lin_val (i := 32) (v := .bool true) rfl rfl (by rfl) (by intro x hx; go_simp; (first | done | exact rfl)) ?_
  simp only [List.set_cons_succ, List.set_cons_zero]
  refine lin_call (i := 33) (f := 17) (args := #[.int .i64 (ti (8#64)), .int .i64 (ti (8#64))]) (v := .bool true) (st_ups _ _) rfl rfl (by rfl) (fun x hx => by kernel_rfl) (by intro x hx; exact calls_is (decl_May_any 8#64 8#64 _ (HT.out.up hx.below)) (congrArg Value.bool ((show (decl_May 8#64 8#64) = true by decide +kernel)))) ?_
  simp only [List.set_cons_succ, List.set_cons_zero]
  refine lin_val (i := 34) (v := .bool true) rfl rfl (by rfl) (by intro x hx; go_simp; (first | done | exact rfl)) ?_
  simp only [List.set_cons_succ, List.set_cons_zero]
  refine lin_val (i := 35) (v := .bool true) rfl rfl (by rfl) (by intro x hx; go_simp; (first | done | exact rfl)) ?_
  simp only [List.set_cons_succ, List.set_cons_zero]
  refine lin_val (i := 36) (v := .agg #[.int .i64 4, .int .i64 8, .int .i64 1, .int .i64 4, .int .i64 0]) rfl rfl (by rfl) (by intro x hx; have f0 := hx.load 0 0 rfl rfl; have f1 := hx.load 0 1 rfl rfl; have f2 := hx.load 0 2 rfl rfl; have f3 := hx.load 0 3 rfl rfl; have f4 := hx.load 0 4 rfl rfl; go_simp; (first | done | exact rfl)) ?_
  simp only [List.set_cons_succ, List.set_cons_zero]
  refine lin_val (i := 37) (v := .agg #[.int .i64 4, .int .i64 8, .int .i64 1, .int .i64 4, .int .i64 0]) rfl rfl (by rfl) (by intro x hx; have f0 := hx.load 0 0 rfl rfl; have f1 := hx.load 0 1 rfl rfl; have f2 := hx.load 0 2 rfl rfl; have f3 := hx.load 0 3 rfl rfl; have f4 := hx.load 0 4 rfl rfl; go_simp; (first | done | exact rfl)) ?_
  simp only [List.set_cons_succ, List.set_cons_zero]
  refine lin_call (i := 38) (f := 15) (args := #[.agg #[.int .i64 (ti (4#64)), .int .i64 (ti (8#64)), .int .i64 (ti (1#64)), .int .i64 (ti (4#64)), .int .i64 (ti (0#64))], .agg #[.int .i64 (ti (4#64)), .int .i64 (ti (8#64)), .int .i64 (ti (1#64)), .int .i64 (ti (4#64)), .int .i64 (ti (0#64))]]) (v := .bool true) (st_ups _ _) rfl rfl (by rfl) (fun x hx => by kernel_rfl) (by intro x hx; exact calls_is (decl_Like_any (Dc.mk 4#64 8#64 1#64 4#64 0#64) (Dc.mk 4#64 8#64 1#64 4#64 0#64) _) (congrArg Value.bool ((show (eqD (Dc.mk 4#64 8#64 1#64 4#64 0#64) (Dc.mk 4#64 8#64 1#64 4#64 0#64)) = true by decide +kernel)))) ?_
  simp only [List.set_cons_succ, List.set_cons_zero]
  refine lin_val (i := 39) (v := .bool true) rfl rfl (by rfl) (by intro x hx; go_simp; (first | done | exact rfl)) ?_
  simp only [List.set_cons_succ, List.set_cons_zero]
  refine lin_val (i := 40) (v := .bool true) rfl rfl (by rfl) (by intro x hx; go_simp; (first | done | exact rfl)) ?_
  simp only [List.set_cons_succ, List.set_cons_zero]
  refine lin_val (i := 41) (v := .agg #[.int .i64 4, .int .i64 8, .int .i64 1, .int .i64 4, .int .i64 0]) rfl rfl (by rfl) (by intro x hx; have f0 := hx.load 0 0 rfl rfl; have f1 := hx.load 0 1 rfl rfl; have f2 := hx.load 0 2 rfl rfl; have f3 := hx.load 0 3 rfl rfl; have f4 := hx.load 0 4 rfl rfl; go_simp; (first | done | exact rfl)) ?_
  simp only [List.set_cons_succ, List.set_cons_zero]
  refine lin_val (i := 42) (v := .agg #[.int .i64 4, .int .i64 8, .int .i64 1, .int .i64 3, .int .i64 0]) rfl rfl (by rfl) (by intro x hx; have f0 := hx.load 1 0 rfl rfl; have f1 := hx.load 1 1 rfl rfl; have f2 := hx.load 1 2 rfl rfl; have f3 := hx.load 1 3 rfl rfl; have f4 := hx.load 1 4 rfl rfl; go_simp; (first | done | exact rfl)) ?_
  simp only [List.set_cons_succ, List.set_cons_zero]
  refine lin_call (i := 43) (f := 15) (args := #[.agg #[.int .i64 (ti (4#64)), .int .i64 (ti (8#64)), .int .i64 (ti (1#64)), .int .i64 (ti (4#64)), .int .i64 (ti (0#64))], .agg #[.int .i64 (ti (4#64)), .int .i64 (ti (8#64)), .int .i64 (ti (1#64)), .int .i64 (ti (3#64)), .int .i64 (ti (0#64))]]) (v := .bool false) (st_ups _ _) rfl rfl (by rfl) (fun x hx => by kernel_rfl) (by intro x hx; exact calls_is (decl_Like_any (Dc.mk 4#64 8#64 1#64 4#64 0#64) (Dc.mk 4#64 8#64 1#64 3#64 0#64) _) (congrArg Value.bool ((show (eqD (Dc.mk 4#64 8#64 1#64 4#64 0#64) (Dc.mk 4#64 8#64 1#64 3#64 0#64)) = false by decide +kernel)))) ?_
  simp only [List.set_cons_succ, List.set_cons_zero]
  refine lin_val (i := 44) (v := .bool true) rfl rfl (by rfl) (by intro x hx; go_simp; (first | done | exact rfl)) ?_
  simp only [List.set_cons_succ, List.set_cons_zero]
  refine lin_val (i := 45) (v := .bool true) rfl rfl (by rfl) (by intro x hx; go_simp; (first | done | exact rfl)) ?_
  simp only [List.set_cons_succ, List.set_cons_zero]
  refine lin_val (i := 46) (v := .bool true) rfl rfl (by rfl) (by intro x hx; go_simp; (first | done | exact rfl)) ?_
  simp only [List.set_cons_zero]
  refine lin_done ?_
  intro W8 hx
  replace HS := hid hx
  clear hx
  go_wp2
  exact bodyPost_ret (v := .bool true) (by simp [results, Tryd.results8, go_sem]) rfl ⟨rfl, HS.out.below⟩
end Go.Proofs.YtejcjjimhaokfaaDoor.Dcl
