/-
  The contracts of what operations make.
-/
import Derived.Deep.DeepCutAuto
import Derived.Test.YtmcapfbkedfdkaaGreatDoorScD
namespace Go.Proofs.YtmcapfbkedfdkaaGreatDoor.Sp
set_option maxRecDepth 100000
open Go.RowKit Go.Proofs.YtmcapfbkedfdkaaGreatDoor.Num Go.Proofs.YtmcapfbkedfdkaaGreatDoor.Up
def scalar_only (x0 : BitVec 64) (x1 : Bool) (x2 : Sc) (x3 : Sc)  : BitVec 64 × Bool :=
 bif (x0 == 176#64) then (bif (!(single1 x3)) then ((0#64, false)) else ((aluR x0 x1 x2.t.lo x3.t.lo, aluIs (ti x0)))) else (bif (x0 == 128#64) then (bif (!(single1 x2)) then ((0#64, false)) else ((aluR x0 x1 x2.t.lo x3.t.lo, aluIs (ti x0)))) else (bif (!(single2 x2 x3)) then ((0#64, false)) else ((aluR x0 x1 x2.t.lo x3.t.lo, aluIs (ti x0)))))
set_option maxHeartbeats 1000000 in
theorem scalar_only_any (x0 : BitVec 64) (x1 : Bool) (x2 : Sc) (x3 : Sc)   (w : World) :
   Calls Tryz.prog 22 #[.int .i64 (ti (x0)), .bool (x1), vS x2, vS x3] w fun e w' => e = .returned (.tuple #[.int .u64 (tn ((scalar_only x0 x1 x2 x3).1)), .bool ((scalar_only x0 x1 x2 x3).2)]) ∧ Below w.heap.size w w' := by
 simp only [vS]
 go_enter Tryz.func22, Tryz.ntmps22
 have HS : Hid (St w [⟨w.heap.size, [some (.int .u64 (tn (x2.t.lo))), some (.int .u64 (tn (x2.t.hi))), some (.int .u64 (tn (x2.u.lo))), some (.int .u64 (tn (x2.u.hi))), some (.int .i64 (ti (x2.s.lo))), some (.int .i64 (ti (x2.s.hi)))], 31⟩, ⟨w.heap.size + 1, [some (.int .u64 (tn (x3.t.lo))), some (.int .u64 (tn (x3.t.hi))), some (.int .u64 (tn (x3.u.lo))), some (.int .u64 (tn (x3.u.hi))), some (.int .i64 (ti (x3.s.lo))), some (.int .i64 (ti (x3.s.hi)))], 31⟩] _) := hid (((st_nil w).alloc (k := w.heap.size) rfl [.int .u64 (tn (x2.t.lo)), .int .u64 (tn (x2.t.hi)), .int .u64 (tn (x2.u.lo)), .int .u64 (tn (x2.u.hi)), .int .i64 (ti (x2.s.lo)), .int .i64 (ti (x2.s.hi))] 31).alloc (k := w.heap.size + 1) (by simp) [.int .u64 (tn (x3.t.lo)), .int .u64 (tn (x3.t.hi)), .int .u64 (tn (x3.u.lo)), .int .u64 (tn (x3.u.hi)), .int .i64 (ti (x3.s.lo)), .int .i64 (ti (x3.s.hi))] 31)
 go_upto_region 1 with fail
 refine lnb HS.out rfl ?_
 refine lv 0 (.bool false) rfl rfl (by intro x hx; go_simp; all_goals exact rfl) ?_
 simp only [sA, sB]
 clear HS
 refine ld fun W1 HS => ?_
 go_upto_region 2 with fail
 refine lnb HS.out rfl ?_
 refine lm 0 0 rfl rfl rfl rfl ?_
 simp only [sA, sB]
 clear HS
 refine ld fun W2 HS => ?_
 go_upto_region 4 with fail
 refine lnb HS.out rfl ?_
 refine lv 0 (.bool ((x0 == 176#64))) rfl rfl (by intro x hx; go_simp; (first | done | exact eqIT x0 176#64 | exact congrArg _ (eqIT x0 176#64) | (rw [eqIT x0 176#64]; done) | (rw [eqIT x0 176#64]; rfl))) ?_
 simp only [sA, sB]
 refine la 1 17 rfl rfl rfl rfl ?_
 simp only [sA, sB]
 clear HS
 refine ld fun W3 HS => ?_
 cases h1 : ((x0 == 176#64))
 ·replace h1 := hid h1
  go_upto_region 6 with fail
  refine lnb HS.out rfl ?_
  refine lv 0 (.bool ((x0 == 128#64))) rfl rfl (by intro x hx; go_simp; (first | done | exact eqIT x0 128#64 | exact congrArg _ (eqIT x0 128#64) | (rw [eqIT x0 128#64]; done) | (rw [eqIT x0 128#64]; rfl))) ?_
  simp only [sA, sB]
  refine la 1 22 rfl rfl rfl rfl ?_
  simp only [sA, sB]
  clear HS
  refine ld fun W4 HS => ?_
  cases h2 : ((x0 == 128#64))
  ·replace h2 := hid h2
   go_upto_region 3 with fail
   refine lnb HS.out rfl ?_
   refine lv 0 (vS x2) rfl rfl (by intro x hx; obtain ⟨f0, f1, f2, f3, f4, f5⟩ := hx.six 0 0 rfl rfl; go_simp; all_goals exact rfl) ?_
   simp only [sA, sB, vS]
   refine lv 1 (vS x3) rfl rfl (by intro x hx; obtain ⟨f0, f1, f2, f3, f4, f5⟩ := hx.six 1 0 rfl rfl; go_simp; all_goals exact rfl) ?_
   simp only [sA, sB, vS]
   refine lin_new (i := 2) rfl rfl (by rfl) [.int .u64 (tn (x2.t.lo)), .int .u64 (tn (x2.t.hi)), .int .u64 (tn (x2.u.lo)), .int .u64 (tn (x2.u.hi)), .int .i64 (ti (x2.s.lo)), .int .i64 (ti (x2.s.hi)), .int .u64 (tn (x3.t.lo)), .int .u64 (tn (x3.t.hi)), .int .u64 (tn (x3.u.lo)), .int .u64 (tn (x3.u.hi)), .int .i64 (ti (x3.s.lo)), .int .i64 (ti (x3.s.hi))] 31 (fun k => .slice (some ⟨k, 0, none⟩) 2 2) [some (.int .u64 (tn (x2.t.lo))), some (.int .u64 (tn (x2.t.hi))), some (.int .u64 (tn (x2.u.lo))), some (.int .u64 (tn (x2.u.hi))), some (.int .i64 (ti (x2.s.lo))), some (.int .i64 (ti (x2.s.hi))), some (.int .u64 (tn (x3.t.lo))), some (.int .u64 (tn (x3.t.hi))), some (.int .u64 (tn (x3.u.lo))), some (.int .u64 (tn (x3.u.hi))), some (.int .i64 (ti (x3.s.lo))), some (.int .i64 (ti (x3.s.hi)))] (lessC_refl _) (by intro x hx; go_simp; all_goals exact rfl) (fun k1 => ?_)
   simp only [sA, sB, sC, sD]
   refine lc 3 14 #[.slice (some ⟨k1, 0, none⟩) 2 2] (.bool (single2 x2 x3)) rfl rfl (by intro x hx; exact single2_any k1 x2 x3 _ (hx.okat 2 rfl)) ?_
   simp only [sA, sB]
   refine la 4 15 rfl rfl rfl rfl ?_
   simp only [sA, sB]
   clear HS
   refine ld fun W5 HS => ?_
   go_upto_region 8 with fail
   refine lnb HS.out rfl ?_
   refine lm 0 10 rfl rfl rfl rfl ?_
   simp only [sA, sB]
   refine lv 1 (.bool ((!(single2 x2 x3)))) rfl rfl (by intro x hx; go_simp; all_goals exact rfl) ?_
   simp only [sA, sB]
   clear HS
   refine ld fun W6 HS => ?_
   cases h3 : ((!(single2 x2 x3)))
   ·replace h3 := hid h3
    go_upto_region 10 with fail
    refine lnb HS.out rfl ?_
    refine lm 0 0 rfl rfl rfl rfl ?_
    simp only [sA, sB]
    refine lm 1 1 rfl rfl rfl rfl ?_
    simp only [sA, sB]
    refine lv 2 (.pointer (some ⟨w.heap.size, 0, none⟩)) rfl rfl (by intro x hx; go_simp; all_goals exact rfl) ?_
    simp only [sA, sB]
    refine lv 3 (.pointer (some ⟨w.heap.size, 0, none⟩)) rfl rfl (by intro x hx; go_simp; all_goals exact rfl) ?_
    simp only [sA, sB]
    refine lv 4 (.int .u64 (tn (x2.t.lo))) rfl rfl (by intro x hx; have f0 := hx.load 0 0 rfl rfl; go_simp; all_goals exact rfl) ?_
    simp only [sA, sB]
    refine lv 5 (.pointer (some ⟨w.heap.size + 1, 0, none⟩)) rfl rfl (by intro x hx; go_simp; all_goals exact rfl) ?_
    simp only [sA, sB]
    refine lv 6 (.pointer (some ⟨w.heap.size + 1, 0, none⟩)) rfl rfl (by intro x hx; go_simp; all_goals exact rfl) ?_
    simp only [sA, sB]
    refine lv 7 (.int .u64 (tn (x3.t.lo))) rfl rfl (by intro x hx; have f0 := hx.load 1 0 rfl rfl; go_simp; all_goals exact rfl) ?_
    simp only [sA, sB]
    refine lc 8 11 #[.int .i64 (ti (x0)), .bool (x1), .int .u64 (tn (x2.t.lo)), .int .u64 (tn (x3.t.lo))] (.tuple #[.int .u64 (tn (aluR x0 x1 x2.t.lo x3.t.lo)), .bool (aluIs (ti x0))]) rfl rfl (by intro x hx; exact wAlu_any x0 x1 x2.t.lo x3.t.lo _) ?_
    simp only [sA, sB]
    refine lv 9 (.int .u64 (tn (aluR x0 x1 x2.t.lo x3.t.lo))) rfl rfl (by intro x hx; go_simp; all_goals exact rfl) ?_
    simp only [sA, sB]
    refine lv 10 (.bool (aluIs (ti x0))) rfl rfl (by intro x hx; go_simp; all_goals exact rfl) ?_
    simp only [sA, sB]
    refine la 11 37 rfl rfl rfl rfl ?_
    simp only [sA, sB]
    refine la 12 38 rfl rfl rfl rfl ?_
    simp only [sA, sB]
    clear HS
    refine ld fun W7 HS => ?_
    go_wp2
    have HF : scalar_only x0 x1 x2 x3 = (aluR x0 x1 x2.t.lo x3.t.lo, aluIs (ti x0)) := by
      unfold scalar_only
      rw [cond_f h1.out, cond_f h2.out, cond_f h3.out]
    exact bodyPost_ret (v := .tuple #[.int .u64 (tn (aluR x0 x1 x2.t.lo x3.t.lo)), .bool (aluIs (ti x0))]) (by simp [results, Tryz.results22, go_sem]) rfl ⟨(by first | (rw [HF]; done) | (rw [HF]; rfl)), HS.out.below⟩
   ·replace h3 := hid h3
    go_upto_region 9 with fail
    refine lnb HS.out rfl ?_
    refine lv 0 (.int .u64 0) rfl rfl (by intro x hx; go_simp; all_goals exact rfl) ?_
    simp only [sA, sB]
    refine lv 1 (.bool false) rfl rfl (by intro x hx; go_simp; all_goals exact rfl) ?_
    simp only [sA, sB]
    clear HS
    refine ld fun W7 HS => ?_
    go_wp2
    have HF : scalar_only x0 x1 x2 x3 = (0#64, false) := by
      unfold scalar_only
      rw [cond_f h1.out, cond_f h2.out, cond_t h3.out]
    exact bodyPost_ret (v := .tuple #[.int .u64 0, .bool false]) (by simp [results, Tryz.results22, go_sem]) rfl ⟨(by first | (rw [HF]; done) | (rw [HF]; rfl)), HS.out.below⟩
  ·replace h2 := hid h2
   go_upto_region 7 with fail
   refine lnb HS.out rfl ?_
   refine lv 0 (vS x2) rfl rfl (by intro x hx; obtain ⟨f0, f1, f2, f3, f4, f5⟩ := hx.six 0 0 rfl rfl; go_simp; all_goals exact rfl) ?_
   simp only [sA, sB, vS]
   refine lin_new (i := 1) rfl rfl (by rfl) [.int .u64 (tn (x2.t.lo)), .int .u64 (tn (x2.t.hi)), .int .u64 (tn (x2.u.lo)), .int .u64 (tn (x2.u.hi)), .int .i64 (ti (x2.s.lo)), .int .i64 (ti (x2.s.hi))] 31 (fun k => .slice (some ⟨k, 0, none⟩) 1 1) [some (.int .u64 (tn (x2.t.lo))), some (.int .u64 (tn (x2.t.hi))), some (.int .u64 (tn (x2.u.lo))), some (.int .u64 (tn (x2.u.hi))), some (.int .i64 (ti (x2.s.lo))), some (.int .i64 (ti (x2.s.hi)))] (lessC_refl _) (by intro x hx; go_simp; all_goals exact rfl) (fun k1 => ?_)
   simp only [sA, sB, sC, sD]
   refine lc 2 14 #[.slice (some ⟨k1, 0, none⟩) 1 1] (.bool (single1 x2)) rfl rfl (by intro x hx; exact single1_any k1 x2 _ (hx.okat 2 rfl)) ?_
   simp only [sA, sB]
   refine la 3 25 rfl rfl rfl rfl ?_
   simp only [sA, sB]
   clear HS
   refine ld fun W5 HS => ?_
   go_upto_region 8 with fail
   refine lnb HS.out rfl ?_
   refine lm 0 10 rfl rfl rfl rfl ?_
   simp only [sA, sB]
   refine lv 1 (.bool ((!(single1 x2)))) rfl rfl (by intro x hx; go_simp; all_goals exact rfl) ?_
   simp only [sA, sB]
   clear HS
   refine ld fun W6 HS => ?_
   cases h3 : ((!(single1 x2)))
   ·replace h3 := hid h3
    go_upto_region 10 with fail
    refine lnb HS.out rfl ?_
    refine lm 0 0 rfl rfl rfl rfl ?_
    simp only [sA, sB]
    refine lm 1 1 rfl rfl rfl rfl ?_
    simp only [sA, sB]
    refine lv 2 (.pointer (some ⟨w.heap.size, 0, none⟩)) rfl rfl (by intro x hx; go_simp; all_goals exact rfl) ?_
    simp only [sA, sB]
    refine lv 3 (.pointer (some ⟨w.heap.size, 0, none⟩)) rfl rfl (by intro x hx; go_simp; all_goals exact rfl) ?_
    simp only [sA, sB]
    refine lv 4 (.int .u64 (tn (x2.t.lo))) rfl rfl (by intro x hx; have f0 := hx.load 0 0 rfl rfl; go_simp; all_goals exact rfl) ?_
    simp only [sA, sB]
    refine lv 5 (.pointer (some ⟨w.heap.size + 1, 0, none⟩)) rfl rfl (by intro x hx; go_simp; all_goals exact rfl) ?_
    simp only [sA, sB]
    refine lv 6 (.pointer (some ⟨w.heap.size + 1, 0, none⟩)) rfl rfl (by intro x hx; go_simp; all_goals exact rfl) ?_
    simp only [sA, sB]
    refine lv 7 (.int .u64 (tn (x3.t.lo))) rfl rfl (by intro x hx; have f0 := hx.load 1 0 rfl rfl; go_simp; all_goals exact rfl) ?_
    simp only [sA, sB]
    refine lc 8 11 #[.int .i64 (ti (x0)), .bool (x1), .int .u64 (tn (x2.t.lo)), .int .u64 (tn (x3.t.lo))] (.tuple #[.int .u64 (tn (aluR x0 x1 x2.t.lo x3.t.lo)), .bool (aluIs (ti x0))]) rfl rfl (by intro x hx; exact wAlu_any x0 x1 x2.t.lo x3.t.lo _) ?_
    simp only [sA, sB]
    refine lv 9 (.int .u64 (tn (aluR x0 x1 x2.t.lo x3.t.lo))) rfl rfl (by intro x hx; go_simp; all_goals exact rfl) ?_
    simp only [sA, sB]
    refine lv 10 (.bool (aluIs (ti x0))) rfl rfl (by intro x hx; go_simp; all_goals exact rfl) ?_
    simp only [sA, sB]
    refine la 11 37 rfl rfl rfl rfl ?_
    simp only [sA, sB]
    refine la 12 38 rfl rfl rfl rfl ?_
    simp only [sA, sB]
    clear HS
    refine ld fun W7 HS => ?_
    go_wp2
    have HF : scalar_only x0 x1 x2 x3 = (aluR x0 x1 x2.t.lo x3.t.lo, aluIs (ti x0)) := by
      unfold scalar_only
      rw [cond_f h1.out, cond_t h2.out, cond_f h3.out]
    exact bodyPost_ret (v := .tuple #[.int .u64 (tn (aluR x0 x1 x2.t.lo x3.t.lo)), .bool (aluIs (ti x0))]) (by simp [results, Tryz.results22, go_sem]) rfl ⟨(by first | (rw [HF]; done) | (rw [HF]; rfl)), HS.out.below⟩
   ·replace h3 := hid h3
    go_upto_region 9 with fail
    refine lnb HS.out rfl ?_
    refine lv 0 (.int .u64 0) rfl rfl (by intro x hx; go_simp; all_goals exact rfl) ?_
    simp only [sA, sB]
    refine lv 1 (.bool false) rfl rfl (by intro x hx; go_simp; all_goals exact rfl) ?_
    simp only [sA, sB]
    clear HS
    refine ld fun W7 HS => ?_
    go_wp2
    have HF : scalar_only x0 x1 x2 x3 = (0#64, false) := by
      unfold scalar_only
      rw [cond_f h1.out, cond_t h2.out, cond_t h3.out]
    exact bodyPost_ret (v := .tuple #[.int .u64 0, .bool false]) (by simp [results, Tryz.results22, go_sem]) rfl ⟨(by first | (rw [HF]; done) | (rw [HF]; rfl)), HS.out.below⟩
 ·replace h1 := hid h1
  go_upto_region 5 with fail
  refine lnb HS.out rfl ?_
  refine lv 0 (vS x3) rfl rfl (by intro x hx; obtain ⟨f0, f1, f2, f3, f4, f5⟩ := hx.six 1 0 rfl rfl; go_simp; all_goals exact rfl) ?_
  simp only [sA, sB, vS]
  refine lin_new (i := 1) rfl rfl (by rfl) [.int .u64 (tn (x3.t.lo)), .int .u64 (tn (x3.t.hi)), .int .u64 (tn (x3.u.lo)), .int .u64 (tn (x3.u.hi)), .int .i64 (ti (x3.s.lo)), .int .i64 (ti (x3.s.hi))] 31 (fun k => .slice (some ⟨k, 0, none⟩) 1 1) [some (.int .u64 (tn (x3.t.lo))), some (.int .u64 (tn (x3.t.hi))), some (.int .u64 (tn (x3.u.lo))), some (.int .u64 (tn (x3.u.hi))), some (.int .i64 (ti (x3.s.lo))), some (.int .i64 (ti (x3.s.hi)))] (lessC_refl _) (by intro x hx; go_simp; all_goals exact rfl) (fun k1 => ?_)
  simp only [sA, sB, sC, sD]
  refine lc 2 14 #[.slice (some ⟨k1, 0, none⟩) 1 1] (.bool (single1 x3)) rfl rfl (by intro x hx; exact single1_any k1 x3 _ (hx.okat 2 rfl)) ?_
  simp only [sA, sB]
  refine la 3 20 rfl rfl rfl rfl ?_
  simp only [sA, sB]
  clear HS
  refine ld fun W4 HS => ?_
  go_upto_region 8 with fail
  refine lnb HS.out rfl ?_
  refine lm 0 10 rfl rfl rfl rfl ?_
  simp only [sA, sB]
  refine lv 1 (.bool ((!(single1 x3)))) rfl rfl (by intro x hx; go_simp; all_goals exact rfl) ?_
  simp only [sA, sB]
  clear HS
  refine ld fun W5 HS => ?_
  cases h2 : ((!(single1 x3)))
  ·replace h2 := hid h2
   go_upto_region 10 with fail
   refine lnb HS.out rfl ?_
   refine lm 0 0 rfl rfl rfl rfl ?_
   simp only [sA, sB]
   refine lm 1 1 rfl rfl rfl rfl ?_
   simp only [sA, sB]
   refine lv 2 (.pointer (some ⟨w.heap.size, 0, none⟩)) rfl rfl (by intro x hx; go_simp; all_goals exact rfl) ?_
   simp only [sA, sB]
   refine lv 3 (.pointer (some ⟨w.heap.size, 0, none⟩)) rfl rfl (by intro x hx; go_simp; all_goals exact rfl) ?_
   simp only [sA, sB]
   refine lv 4 (.int .u64 (tn (x2.t.lo))) rfl rfl (by intro x hx; have f0 := hx.load 0 0 rfl rfl; go_simp; all_goals exact rfl) ?_
   simp only [sA, sB]
   refine lv 5 (.pointer (some ⟨w.heap.size + 1, 0, none⟩)) rfl rfl (by intro x hx; go_simp; all_goals exact rfl) ?_
   simp only [sA, sB]
   refine lv 6 (.pointer (some ⟨w.heap.size + 1, 0, none⟩)) rfl rfl (by intro x hx; go_simp; all_goals exact rfl) ?_
   simp only [sA, sB]
   refine lv 7 (.int .u64 (tn (x3.t.lo))) rfl rfl (by intro x hx; have f0 := hx.load 1 0 rfl rfl; go_simp; all_goals exact rfl) ?_
   simp only [sA, sB]
   refine lc 8 11 #[.int .i64 (ti (x0)), .bool (x1), .int .u64 (tn (x2.t.lo)), .int .u64 (tn (x3.t.lo))] (.tuple #[.int .u64 (tn (aluR x0 x1 x2.t.lo x3.t.lo)), .bool (aluIs (ti x0))]) rfl rfl (by intro x hx; exact wAlu_any x0 x1 x2.t.lo x3.t.lo _) ?_
   simp only [sA, sB]
   refine lv 9 (.int .u64 (tn (aluR x0 x1 x2.t.lo x3.t.lo))) rfl rfl (by intro x hx; go_simp; all_goals exact rfl) ?_
   simp only [sA, sB]
   refine lv 10 (.bool (aluIs (ti x0))) rfl rfl (by intro x hx; go_simp; all_goals exact rfl) ?_
   simp only [sA, sB]
   refine la 11 37 rfl rfl rfl rfl ?_
   simp only [sA, sB]
   refine la 12 38 rfl rfl rfl rfl ?_
   simp only [sA, sB]
   clear HS
   refine ld fun W6 HS => ?_
   go_wp2
   have HF : scalar_only x0 x1 x2 x3 = (aluR x0 x1 x2.t.lo x3.t.lo, aluIs (ti x0)) := by
     unfold scalar_only
     rw [cond_t h1.out, cond_f h2.out]
   exact bodyPost_ret (v := .tuple #[.int .u64 (tn (aluR x0 x1 x2.t.lo x3.t.lo)), .bool (aluIs (ti x0))]) (by simp [results, Tryz.results22, go_sem]) rfl ⟨(by first | (rw [HF]; done) | (rw [HF]; rfl)), HS.out.below⟩
  ·replace h2 := hid h2
   go_upto_region 9 with fail
   refine lnb HS.out rfl ?_
   refine lv 0 (.int .u64 0) rfl rfl (by intro x hx; go_simp; all_goals exact rfl) ?_
   simp only [sA, sB]
   refine lv 1 (.bool false) rfl rfl (by intro x hx; go_simp; all_goals exact rfl) ?_
   simp only [sA, sB]
   clear HS
   refine ld fun W6 HS => ?_
   go_wp2
   have HF : scalar_only x0 x1 x2 x3 = (0#64, false) := by
     unfold scalar_only
     rw [cond_t h1.out, cond_t h2.out]
   exact bodyPost_ret (v := .tuple #[.int .u64 0, .bool false]) (by simp [results, Tryz.results22, go_sem]) rfl ⟨(by first | (rw [HF]; done) | (rw [HF]; rfl)), HS.out.below⟩
set_option maxHeartbeats 1000000 in
theorem scalar_difference_any (x0 : Sc) (x1 : Sc)   (w : World) :
  Calls Tryz.prog 63 #[vS x0, vS x1] w fun e w' => e = .returned (vS (Sc.mk (tnSub x0.t x1.t) (span_Sub x0.u x1.u) (span_Ssub x0.s x1.s))) ∧ Below w.heap.size w w' := by
 simp only [vS]
 go_enter Tryz.func63, Tryz.ntmps63
 have HS : Hid (St w [⟨w.heap.size, [some (.int .u64 (tn (x0.t.lo))), some (.int .u64 (tn (x0.t.hi))), some (.int .u64 (tn (x0.u.lo))), some (.int .u64 (tn (x0.u.hi))), some (.int .i64 (ti (x0.s.lo))), some (.int .i64 (ti (x0.s.hi)))], 31⟩, ⟨w.heap.size + 1, [some (.int .u64 (tn (x1.t.lo))), some (.int .u64 (tn (x1.t.hi))), some (.int .u64 (tn (x1.u.lo))), some (.int .u64 (tn (x1.u.hi))), some (.int .i64 (ti (x1.s.lo))), some (.int .i64 (ti (x1.s.hi)))], 31⟩, ⟨w.heap.size + 2, [some (.int .u64 0), some (.int .u64 0), some (.int .u64 0), some (.int .u64 0), some (.int .i64 0), some (.int .i64 0)], 31⟩] _) := hid ((((st_nil w).alloc (k := w.heap.size) rfl [.int .u64 (tn (x0.t.lo)), .int .u64 (tn (x0.t.hi)), .int .u64 (tn (x0.u.lo)), .int .u64 (tn (x0.u.hi)), .int .i64 (ti (x0.s.lo)), .int .i64 (ti (x0.s.hi))] 31).alloc (k := w.heap.size + 1) (by simp) [.int .u64 (tn (x1.t.lo)), .int .u64 (tn (x1.t.hi)), .int .u64 (tn (x1.u.lo)), .int .u64 (tn (x1.u.hi)), .int .i64 (ti (x1.s.lo)), .int .i64 (ti (x1.s.hi))] 31).alloc (k := w.heap.size + 2) (by simp) [.int .u64 0, .int .u64 0, .int .u64 0, .int .u64 0, .int .i64 0, .int .i64 0] 31)
 go_upto_region 1 with fail
 refine upb 17 (HS.out.drew.forget 2 0 6 rfl) rfl ?_
 simp only [Blk.dropC, noneM, sA, sB]
 refine tv 0 (.pointer (some ⟨w.heap.size, 0, none⟩)) rfl rfl (by intro x hx; go_simp; all_goals exact rfl) ?_
 simp only [sA, sB]
 refine tv 1 (vU x0.t) rfl rfl (by intro x hx; obtain ⟨f0, f1⟩ := hx.two 0 0 rfl rfl; go_simp; all_goals exact rfl) ?_
 simp only [sA, sB, vU]
 refine tv 2 (.pointer (some ⟨w.heap.size + 1, 0, none⟩)) rfl rfl (by intro x hx; go_simp; all_goals exact rfl) ?_
 simp only [sA, sB]
 refine tv 3 (vU x1.t) rfl rfl (by intro x hx; obtain ⟨f0, f1⟩ := hx.two 1 0 rfl rfl; go_simp; all_goals exact rfl) ?_
 simp only [sA, sB, vU]
 refine tc 4 112 #[vU x0.t, vU x1.t] (vU (tnSub x0.t x1.t)) rfl rfl (by intro x hx; exact tnSub_any x0.t x1.t _) ?_
 simp only [sA, sB, vU]
 refine tv 5 (.pointer (some ⟨w.heap.size, 2, none⟩)) rfl rfl (by intro x hx; go_simp; all_goals exact rfl) ?_
 simp only [sA, sB]
 refine tv 6 (vU x0.u) rfl rfl (by intro x hx; obtain ⟨f0, f1⟩ := hx.two 0 2 rfl rfl; go_simp; all_goals exact rfl) ?_
 simp only [sA, sB, vU]
 refine tv 7 (.pointer (some ⟨w.heap.size + 1, 2, none⟩)) rfl rfl (by intro x hx; go_simp; all_goals exact rfl) ?_
 simp only [sA, sB]
 refine tv 8 (vU x1.u) rfl rfl (by intro x hx; obtain ⟨f0, f1⟩ := hx.two 1 2 rfl rfl; go_simp; all_goals exact rfl) ?_
 simp only [sA, sB, vU]
 refine tc 9 113 #[vU x0.u, vU x1.u] (vU (span_Sub x0.u x1.u)) rfl rfl (by intro x hx; exact span_Sub_any x0.u x1.u _) ?_
 simp only [sA, sB, vU]
 refine tv 10 (.pointer (some ⟨w.heap.size, 4, none⟩)) rfl rfl (by intro x hx; go_simp; all_goals exact rfl) ?_
 simp only [sA, sB]
 refine tv 11 (vI x0.s) rfl rfl (by intro x hx; obtain ⟨f0, f1⟩ := hx.two 0 4 rfl rfl; go_simp; all_goals exact rfl) ?_
 simp only [sA, sB, vI]
 refine tv 12 (.pointer (some ⟨w.heap.size + 1, 4, none⟩)) rfl rfl (by intro x hx; go_simp; all_goals exact rfl) ?_
 simp only [sA, sB]
 refine tv 13 (vI x1.s) rfl rfl (by intro x hx; obtain ⟨f0, f1⟩ := hx.two 1 4 rfl rfl; go_simp; all_goals exact rfl) ?_
 simp only [sA, sB, vI]
 refine tc 14 114 #[vI x0.s, vI x1.s] (vI (span_Ssub x0.s x1.s)) rfl rfl (by intro x hx; exact span_Ssub_any x0.s x1.s _) ?_
 simp only [sA, sB, vI]
 refine tv 15 (vS (Sc.mk (tnSub x0.t x1.t) (span_Sub x0.u x1.u) (span_Ssub x0.s x1.s))) rfl rfl (by intro x hx; go_simp; all_goals exact rfl) ?_
 simp only [sA, sB, vS]
 refine ts 16 2 0 (cS (Sc.mk (tnSub x0.t x1.t) (span_Sub x0.u x1.u) (span_Ssub x0.s x1.s))) rfl rfl rfl (by intro x hx; obtain ⟨⟨_, z0, q0⟩, ⟨_, z1, q1⟩, ⟨_, z2, q2⟩, ⟨_, z3, q3⟩, ⟨_, z4, q4⟩, ⟨_, z5, q5⟩⟩ := hx.at6 2 0 rfl; go_simp; all_goals rfl) ?_
 simp only [Blk.putC, setM, cS, sA, sB]
 clear HS
 refine td fun W1 HS => ?_
 go_wp2
 obtain ⟨r0, r1, r2, r3, r4, r5⟩ := HS.out.six 2 0 rfl rfl
 exact bodyPost_ret (v := vS (Sc.mk (tnSub x0.t x1.t) (span_Sub x0.u x1.u) (span_Ssub x0.s x1.s))) (by simp [results, Tryz.results63, go_sem, r0, r1, r2, r3, r4, r5, vS]) rfl ⟨rfl, HS.out.below⟩
def scalar_shift (x0 : BitVec 64) (x1 : BitVec 64) (x2 : Sc) (x3 : Sc)  : Sc :=
 bif (!(single1 x3)) then (bif (x0 == 112#64) then (Sc.mk (P.mk 0#64 18446744073709551615#64) (P.mk 0#64 x2.u.hi) (P.mk 9223372036854775808#64 9223372036854775807#64)) else (scalar_All)) else (bif (x0 == 96#64) then (Sc.mk (tnLsh x2.t (x3.t.lo % x1)) (span_Mul x2.u (P.mk (1#64 <<< ((x3.t.lo % x1) % 64#64).toNat) (1#64 <<< ((x3.t.lo % x1) % 64#64).toNat))) (P.mk 9223372036854775808#64 9223372036854775807#64)) else (bif (x0 == 112#64) then (Sc.mk (tnRsh x2.t (x3.t.lo % x1)) (P.mk (x2.u.lo >>> ((x3.t.lo % x1) % 64#64).toNat) (x2.u.hi >>> ((x3.t.lo % x1) % 64#64).toNat)) (P.mk 9223372036854775808#64 9223372036854775807#64)) else (Sc.mk (tnArsh x2.t (x3.t.lo % x1)) (P.mk 0#64 18446744073709551615#64) (span_down_int64 x2.s (x3.t.lo % x1)))))
set_option maxHeartbeats 4000000 in
theorem scalar_shift_any (x0 : BitVec 64) (x1 : BitVec 64) (x2 : Sc) (x3 : Sc)  (hw : (x1 == 0#64) = false) (w : World) :
   Calls Tryz.prog 75 #[.int .i64 (ti (x0)), .int .u64 (tn (x1)), vS x2, vS x3] w fun e w' => e = .returned (vS (scalar_shift x0 x1 x2 x3)) ∧ Below w.heap.size w w' := by
 simp only [vS]
 have Hhw := hid hw
 clear hw
 go_enter Tryz.func75, Tryz.ntmps75
 have HS : Hid (St w [⟨w.heap.size, [some (.int .u64 (tn (x2.t.lo))), some (.int .u64 (tn (x2.t.hi))), some (.int .u64 (tn (x2.u.lo))), some (.int .u64 (tn (x2.u.hi))), some (.int .i64 (ti (x2.s.lo))), some (.int .i64 (ti (x2.s.hi)))], 31⟩, ⟨w.heap.size + 1, [some (.int .u64 (tn (x3.t.lo))), some (.int .u64 (tn (x3.t.hi))), some (.int .u64 (tn (x3.u.lo))), some (.int .u64 (tn (x3.u.hi))), some (.int .i64 (ti (x3.s.lo))), some (.int .i64 (ti (x3.s.hi)))], 31⟩, ⟨w.heap.size + 2, [some (.int .u64 0), some (.int .u64 0), some (.int .u64 0), some (.int .u64 0), some (.int .i64 0), some (.int .i64 0)], 31⟩] _) := hid ((((st_nil w).alloc (k := w.heap.size) rfl [.int .u64 (tn (x2.t.lo)), .int .u64 (tn (x2.t.hi)), .int .u64 (tn (x2.u.lo)), .int .u64 (tn (x2.u.hi)), .int .i64 (ti (x2.s.lo)), .int .i64 (ti (x2.s.hi))] 31).alloc (k := w.heap.size + 1) (by simp) [.int .u64 (tn (x3.t.lo)), .int .u64 (tn (x3.t.hi)), .int .u64 (tn (x3.u.lo)), .int .u64 (tn (x3.u.hi)), .int .i64 (ti (x3.s.lo)), .int .i64 (ti (x3.s.hi))] 31).alloc (k := w.heap.size + 2) (by simp) [.int .u64 0, .int .u64 0, .int .u64 0, .int .u64 0, .int .i64 0, .int .i64 0] 31)
 go_upto_region 1 with fail
 refine lnb HS.out rfl ?_
 refine lv 0 (vS x3) rfl rfl (by intro x hx; obtain ⟨f0, f1, f2, f3, f4, f5⟩ := hx.six 1 0 rfl rfl; go_simp; all_goals exact rfl) ?_
 simp only [sA, sB, vS]
 refine lin_new (i := 1) rfl rfl (by rfl) [.int .u64 (tn (x3.t.lo)), .int .u64 (tn (x3.t.hi)), .int .u64 (tn (x3.u.lo)), .int .u64 (tn (x3.u.hi)), .int .i64 (ti (x3.s.lo)), .int .i64 (ti (x3.s.hi))] 31 (fun k => .slice (some ⟨k, 0, none⟩) 1 1) [some (.int .u64 (tn (x3.t.lo))), some (.int .u64 (tn (x3.t.hi))), some (.int .u64 (tn (x3.u.lo))), some (.int .u64 (tn (x3.u.hi))), some (.int .i64 (ti (x3.s.lo))), some (.int .i64 (ti (x3.s.hi)))] (lessC_refl _) (by intro x hx; go_simp; all_goals exact rfl) (fun k1 => ?_)
 simp only [sA, sB, sC, sD]
 refine lc 2 14 #[.slice (some ⟨k1, 0, none⟩) 1 1] (.bool (single1 x3)) rfl rfl (by intro x hx; exact single1_any k1 x3 _ (hx.okat 3 rfl)) ?_
 simp only [sA, sB]
 refine lv 3 (.bool ((!(single1 x3)))) rfl rfl (by intro x hx; go_simp; all_goals exact rfl) ?_
 simp only [sA, sB]
 clear HS
 refine ld fun W1 HS => ?_
 cases h1 : ((!(single1 x3)))
 ·replace h1 := hid h1
  go_upto_region 5 with fail
  refine lnb HS.out rfl ?_
  refine lv 0 (.pointer (some ⟨w.heap.size + 1, 0, none⟩)) rfl rfl (by intro x hx; go_simp; all_goals exact rfl) ?_
  simp only [sA, sB]
  refine lv 1 (.pointer (some ⟨w.heap.size + 1, 0, none⟩)) rfl rfl (by intro x hx; go_simp; all_goals exact rfl) ?_
  simp only [sA, sB]
  refine lv 2 (.int .u64 (tn (x3.t.lo))) rfl rfl (by intro x hx; have f0 := hx.load 1 0 rfl rfl; go_simp; all_goals exact rfl) ?_
  simp only [sA, sB]
  refine lm 3 1 rfl rfl rfl rfl ?_
  simp only [sA, sB]
  refine lv 4 (.int .u64 (tn (x3.t.lo % x1))) rfl rfl (by intro x hx; have hy := ne0U (Hhw.out); go_simp; (first | done | exact (if_neg hy).trans (congrArg (fun v => Result.ok (Next.value (Value.int .u64 v)) x) (remUT x3.t.lo x1)) | exact remUT x3.t.lo x1 | exact congrArg _ (remUT x3.t.lo x1) | (rw [remUT x3.t.lo x1]; done) | (rw [remUT x3.t.lo x1]; rfl))) ?_
  simp only [sA, sB]
  refine lv 5 (.int .i64 (ti (x3.t.lo % x1))) rfl rfl (by intro x hx; go_simp; (first | done | exact toI64 (x3.t.lo % x1) | exact congrArg _ (toI64 (x3.t.lo % x1)) | (rw [toI64 (x3.t.lo % x1)]; done) | (rw [toI64 (x3.t.lo % x1)]; rfl))) ?_
  simp only [sA, sB]
  refine la 6 28 rfl rfl rfl rfl ?_
  simp only [sA, sB]
  clear HS
  refine ld fun W2 HS => ?_
  go_upto_region 6 with fail
  refine lnb HS.out rfl ?_
  refine lm 0 0 rfl rfl rfl rfl ?_
  simp only [sA, sB]
  clear HS
  refine ld fun W3 HS => ?_
  go_upto_region 7 with fail
  refine lnb HS.out rfl ?_
  refine lv 0 (.bool ((x0 == 96#64))) rfl rfl (by intro x hx; go_simp; (first | done | exact eqIT x0 96#64 | exact congrArg _ (eqIT x0 96#64) | (rw [eqIT x0 96#64]; done) | (rw [eqIT x0 96#64]; rfl))) ?_
  simp only [sA, sB]
  refine la 1 31 rfl rfl rfl rfl ?_
  simp only [sA, sB]
  clear HS
  refine ld fun W4 HS => ?_
  cases h2 : ((x0 == 96#64))
  ·replace h2 := hid h2
   go_upto_region 9 with fail
   refine lnb HS.out rfl ?_
   refine lv 0 (.bool ((x0 == 112#64))) rfl rfl (by intro x hx; go_simp; (first | done | exact eqIT x0 112#64 | exact congrArg _ (eqIT x0 112#64) | (rw [eqIT x0 112#64]; done) | (rw [eqIT x0 112#64]; rfl))) ?_
   simp only [sA, sB]
   refine la 1 42 rfl rfl rfl rfl ?_
   simp only [sA, sB]
   clear HS
   refine ld fun W5 HS => ?_
   cases h3 : ((x0 == 112#64))
   ·replace h3 := hid h3
    go_upto_region 11 with fail
    refine upb 11 (HS.out.drew.forget 2 0 6 rfl) rfl ?_
    simp only [Blk.dropC, noneM, sA, sB]
    refine tv 0 (.pointer (some ⟨w.heap.size, 0, none⟩)) rfl rfl (by intro x hx; go_simp; all_goals exact rfl) ?_
    simp only [sA, sB]
    refine tv 1 (vU x2.t) rfl rfl (by intro x hx; obtain ⟨f0, f1⟩ := hx.two 0 0 rfl rfl; go_simp; all_goals exact rfl) ?_
    simp only [sA, sB, vU]
    refine tm 2 9 rfl rfl rfl rfl ?_
    simp only [sA, sB]
    refine tc 3 121 #[vU x2.t, .int .i64 (ti (x3.t.lo % x1))] (vU (tnArsh x2.t (x3.t.lo % x1))) rfl rfl (by intro x hx; exact tnArsh_any x2.t (x3.t.lo % x1) _) ?_
    simp only [sA, sB, vU]
    refine tc 4 28 #[] (vU (P.mk 0#64 18446744073709551615#64)) rfl rfl (by intro x hx; exact span_All_any _) ?_
    simp only [sA, sB, vU]
    refine tv 5 (.pointer (some ⟨w.heap.size, 4, none⟩)) rfl rfl (by intro x hx; go_simp; all_goals exact rfl) ?_
    simp only [sA, sB]
    refine tv 6 (vI x2.s) rfl rfl (by intro x hx; obtain ⟨f0, f1⟩ := hx.two 0 4 rfl rfl; go_simp; all_goals exact rfl) ?_
    simp only [sA, sB, vI]
    refine tm 7 9 rfl rfl rfl rfl ?_
    simp only [sA, sB]
    refine tc 8 122 #[vI x2.s, .int .i64 (ti (x3.t.lo % x1))] (vI (span_down_int64 x2.s (x3.t.lo % x1))) rfl rfl (by intro x hx; exact span_Sarsh_any x2.s (x3.t.lo % x1) _) ?_
    simp only [sA, sB, vI]
    refine tv 9 (vS (Sc.mk (tnArsh x2.t (x3.t.lo % x1)) (P.mk 0#64 18446744073709551615#64) (span_down_int64 x2.s (x3.t.lo % x1)))) rfl rfl (by intro x hx; go_simp; all_goals exact rfl) ?_
    simp only [sA, sB, vS]
    refine ts 10 2 0 (cS (Sc.mk (tnArsh x2.t (x3.t.lo % x1)) (P.mk 0#64 18446744073709551615#64) (span_down_int64 x2.s (x3.t.lo % x1)))) rfl rfl rfl (by intro x hx; obtain ⟨⟨_, z0, q0⟩, ⟨_, z1, q1⟩, ⟨_, z2, q2⟩, ⟨_, z3, q3⟩, ⟨_, z4, q4⟩, ⟨_, z5, q5⟩⟩ := hx.at6 2 0 rfl; go_simp; all_goals rfl) ?_
    simp only [Blk.putC, setM, cS, sA, sB]
    clear HS
    refine td fun W6 HS => ?_
    go_wp2
    obtain ⟨r0, r1, r2, r3, r4, r5⟩ := HS.out.six 2 0 rfl rfl
    have HF : scalar_shift x0 x1 x2 x3 = Sc.mk (tnArsh x2.t (x3.t.lo % x1)) (P.mk 0#64 18446744073709551615#64) (span_down_int64 x2.s (x3.t.lo % x1)) := by
      unfold scalar_shift
      rw [cond_f h1.out, cond_f h2.out, cond_f h3.out]
    exact bodyPost_ret (v := vS (Sc.mk (tnArsh x2.t (x3.t.lo % x1)) (P.mk 0#64 18446744073709551615#64) (span_down_int64 x2.s (x3.t.lo % x1)))) (by simp [results, Tryz.results75, go_sem, r0, r1, r2, r3, r4, r5, vS]) rfl ⟨(by first | (rw [HF]; done) | (rw [HF]; rfl)), HS.out.below⟩
   ·replace h3 := hid h3
    go_upto_region 10 with fail
    refine upb 10 (HS.out.drew.forget 2 0 6 rfl) rfl ?_
    simp only [Blk.dropC, noneM, sA, sB]
    refine tv 0 (.pointer (some ⟨w.heap.size, 0, none⟩)) rfl rfl (by intro x hx; go_simp; all_goals exact rfl) ?_
    simp only [sA, sB]
    refine tv 1 (vU x2.t) rfl rfl (by intro x hx; obtain ⟨f0, f1⟩ := hx.two 0 0 rfl rfl; go_simp; all_goals exact rfl) ?_
    simp only [sA, sB, vU]
    refine tm 2 9 rfl rfl rfl rfl ?_
    simp only [sA, sB]
    refine tc 3 119 #[vU x2.t, .int .i64 (ti (x3.t.lo % x1))] (vU (tnRsh x2.t (x3.t.lo % x1))) rfl rfl (by intro x hx; exact tnRsh_any x2.t (x3.t.lo % x1) _) ?_
    simp only [sA, sB, vU]
    refine tv 4 (.pointer (some ⟨w.heap.size, 2, none⟩)) rfl rfl (by intro x hx; go_simp; all_goals exact rfl) ?_
    simp only [sA, sB]
    refine tv 5 (vU x2.u) rfl rfl (by intro x hx; obtain ⟨f0, f1⟩ := hx.two 0 2 rfl rfl; go_simp; all_goals exact rfl) ?_
    simp only [sA, sB, vU]
    refine tm 6 9 rfl rfl rfl rfl ?_
    simp only [sA, sB]
    refine tc 7 120 #[vU x2.u, .int .i64 (ti (x3.t.lo % x1))] (vU (P.mk (x2.u.lo >>> ((x3.t.lo % x1) % 64#64).toNat) (x2.u.hi >>> ((x3.t.lo % x1) % 64#64).toNat))) rfl rfl (by intro x hx; exact span_Rsh_any x2.u (x3.t.lo % x1) _) ?_
    simp only [sA, sB, vU]
    refine tc 8 64 #[vU (tnRsh x2.t (x3.t.lo % x1)), vU (P.mk (x2.u.lo >>> ((x3.t.lo % x1) % 64#64).toNat) (x2.u.hi >>> ((x3.t.lo % x1) % 64#64).toNat))] (vS (Sc.mk (tnRsh x2.t (x3.t.lo % x1)) (P.mk (x2.u.lo >>> ((x3.t.lo % x1) % 64#64).toNat) (x2.u.hi >>> ((x3.t.lo % x1) % 64#64).toNat)) (P.mk 9223372036854775808#64 9223372036854775807#64))) rfl rfl (by intro x hx; exact scalar_unordered_any (tnRsh x2.t (x3.t.lo % x1)) (P.mk (x2.u.lo >>> ((x3.t.lo % x1) % 64#64).toNat) (x2.u.hi >>> ((x3.t.lo % x1) % 64#64).toNat)) _) ?_
    simp only [sA, sB, vS]
    refine ts 9 2 0 (cS (Sc.mk (tnRsh x2.t (x3.t.lo % x1)) (P.mk (x2.u.lo >>> ((x3.t.lo % x1) % 64#64).toNat) (x2.u.hi >>> ((x3.t.lo % x1) % 64#64).toNat)) (P.mk 9223372036854775808#64 9223372036854775807#64))) rfl rfl rfl (by intro x hx; obtain ⟨⟨_, z0, q0⟩, ⟨_, z1, q1⟩, ⟨_, z2, q2⟩, ⟨_, z3, q3⟩, ⟨_, z4, q4⟩, ⟨_, z5, q5⟩⟩ := hx.at6 2 0 rfl; go_simp; all_goals rfl) ?_
    simp only [Blk.putC, setM, cS, sA, sB]
    clear HS
    refine td fun W6 HS => ?_
    go_wp2
    obtain ⟨r0, r1, r2, r3, r4, r5⟩ := HS.out.six 2 0 rfl rfl
    have HF : scalar_shift x0 x1 x2 x3 = Sc.mk (tnRsh x2.t (x3.t.lo % x1)) (P.mk (x2.u.lo >>> ((x3.t.lo % x1) % 64#64).toNat) (x2.u.hi >>> ((x3.t.lo % x1) % 64#64).toNat)) (P.mk 9223372036854775808#64 9223372036854775807#64) := by
      unfold scalar_shift
      rw [cond_f h1.out, cond_f h2.out, cond_t h3.out]
    exact bodyPost_ret (v := vS (Sc.mk (tnRsh x2.t (x3.t.lo % x1)) (P.mk (x2.u.lo >>> ((x3.t.lo % x1) % 64#64).toNat) (x2.u.hi >>> ((x3.t.lo % x1) % 64#64).toNat)) (P.mk 9223372036854775808#64 9223372036854775807#64))) (by simp [results, Tryz.results75, go_sem, r0, r1, r2, r3, r4, r5, vS]) rfl ⟨(by first | (rw [HF]; done) | (rw [HF]; rfl)), HS.out.below⟩
  ·replace h2 := hid h2
   go_upto_region 8 with fail
   refine upb 10 (HS.out.drew.forget 2 0 6 rfl) rfl ?_
   simp only [Blk.dropC, noneM, sA, sB]
   refine tv 0 (.pointer (some ⟨w.heap.size, 0, none⟩)) rfl rfl (by intro x hx; go_simp; all_goals exact rfl) ?_
   simp only [sA, sB]
   refine tv 1 (vU x2.t) rfl rfl (by intro x hx; obtain ⟨f0, f1⟩ := hx.two 0 0 rfl rfl; go_simp; all_goals exact rfl) ?_
   simp only [sA, sB, vU]
   refine tm 2 9 rfl rfl rfl rfl ?_
   simp only [sA, sB]
   refine tc 3 117 #[vU x2.t, .int .i64 (ti (x3.t.lo % x1))] (vU (tnLsh x2.t (x3.t.lo % x1))) rfl rfl (by intro x hx; exact tnLsh_any x2.t (x3.t.lo % x1) _) ?_
   simp only [sA, sB, vU]
   refine tv 4 (.pointer (some ⟨w.heap.size, 2, none⟩)) rfl rfl (by intro x hx; go_simp; all_goals exact rfl) ?_
   simp only [sA, sB]
   refine tv 5 (vU x2.u) rfl rfl (by intro x hx; obtain ⟨f0, f1⟩ := hx.two 0 2 rfl rfl; go_simp; all_goals exact rfl) ?_
   simp only [sA, sB, vU]
   refine tm 6 9 rfl rfl rfl rfl ?_
   simp only [sA, sB]
   refine tc 7 118 #[vU x2.u, .int .i64 (ti (x3.t.lo % x1))] (vU (span_Mul x2.u (P.mk (1#64 <<< ((x3.t.lo % x1) % 64#64).toNat) (1#64 <<< ((x3.t.lo % x1) % 64#64).toNat)))) rfl rfl (by intro x hx; exact span_Lsh_any x2.u (x3.t.lo % x1) _) ?_
   simp only [sA, sB, vU]
   refine tc 8 64 #[vU (tnLsh x2.t (x3.t.lo % x1)), vU (span_Mul x2.u (P.mk (1#64 <<< ((x3.t.lo % x1) % 64#64).toNat) (1#64 <<< ((x3.t.lo % x1) % 64#64).toNat)))] (vS (Sc.mk (tnLsh x2.t (x3.t.lo % x1)) (span_Mul x2.u (P.mk (1#64 <<< ((x3.t.lo % x1) % 64#64).toNat) (1#64 <<< ((x3.t.lo % x1) % 64#64).toNat))) (P.mk 9223372036854775808#64 9223372036854775807#64))) rfl rfl (by intro x hx; exact scalar_unordered_any (tnLsh x2.t (x3.t.lo % x1)) (span_Mul x2.u (P.mk (1#64 <<< ((x3.t.lo % x1) % 64#64).toNat) (1#64 <<< ((x3.t.lo % x1) % 64#64).toNat))) _) ?_
   simp only [sA, sB, vS]
   refine ts 9 2 0 (cS (Sc.mk (tnLsh x2.t (x3.t.lo % x1)) (span_Mul x2.u (P.mk (1#64 <<< ((x3.t.lo % x1) % 64#64).toNat) (1#64 <<< ((x3.t.lo % x1) % 64#64).toNat))) (P.mk 9223372036854775808#64 9223372036854775807#64))) rfl rfl rfl (by intro x hx; obtain ⟨⟨_, z0, q0⟩, ⟨_, z1, q1⟩, ⟨_, z2, q2⟩, ⟨_, z3, q3⟩, ⟨_, z4, q4⟩, ⟨_, z5, q5⟩⟩ := hx.at6 2 0 rfl; go_simp; all_goals rfl) ?_
   simp only [Blk.putC, setM, cS, sA, sB]
   clear HS
   refine td fun W5 HS => ?_
   go_wp2
   obtain ⟨r0, r1, r2, r3, r4, r5⟩ := HS.out.six 2 0 rfl rfl
   have HF : scalar_shift x0 x1 x2 x3 = Sc.mk (tnLsh x2.t (x3.t.lo % x1)) (span_Mul x2.u (P.mk (1#64 <<< ((x3.t.lo % x1) % 64#64).toNat) (1#64 <<< ((x3.t.lo % x1) % 64#64).toNat))) (P.mk 9223372036854775808#64 9223372036854775807#64) := by
     unfold scalar_shift
     rw [cond_f h1.out, cond_t h2.out]
   exact bodyPost_ret (v := vS (Sc.mk (tnLsh x2.t (x3.t.lo % x1)) (span_Mul x2.u (P.mk (1#64 <<< ((x3.t.lo % x1) % 64#64).toNat) (1#64 <<< ((x3.t.lo % x1) % 64#64).toNat))) (P.mk 9223372036854775808#64 9223372036854775807#64))) (by simp [results, Tryz.results75, go_sem, r0, r1, r2, r3, r4, r5, vS]) rfl ⟨(by first | (rw [HF]; done) | (rw [HF]; rfl)), HS.out.below⟩
 ·replace h1 := hid h1
  go_upto_region 2 with fail
  refine lnb HS.out rfl ?_
  refine lm 0 0 rfl rfl rfl rfl ?_
  simp only [sA, sB]
  refine lv 1 (.bool ((x0 == 112#64))) rfl rfl (by intro x hx; go_simp; (first | done | exact eqIT x0 112#64 | exact congrArg _ (eqIT x0 112#64) | (rw [eqIT x0 112#64]; done) | (rw [eqIT x0 112#64]; rfl))) ?_
  simp only [sA, sB]
  clear HS
  refine ld fun W2 HS => ?_
  cases h2 : ((x0 == 112#64))
  ·replace h2 := hid h2
   go_upto_region 4 with fail
   refine lnb HS.out rfl ?_
   refine lc 0 9 #[] (vS scalar_All) rfl rfl (by intro x hx; exact scalar_All_any _) ?_
   simp only [sA, sB, vS]
   refine ls 1 2 0 (cS scalar_All) rfl rfl rfl (by intro x hx; obtain ⟨⟨_, z0, q0⟩, ⟨_, z1, q1⟩, ⟨_, z2, q2⟩, ⟨_, z3, q3⟩, ⟨_, z4, q4⟩, ⟨_, z5, q5⟩⟩ := hx.at6 2 0 rfl; go_simp; all_goals rfl) ?_
   simp only [Blk.putC, setM, cS, sA, sB]
   clear HS
   refine ld fun W3 HS => ?_
   go_wp2
   obtain ⟨r0, r1, r2, r3, r4, r5⟩ := HS.out.six 2 0 rfl rfl
   have HF : scalar_shift x0 x1 x2 x3 = scalar_All := by
     unfold scalar_shift
     rw [cond_t h1.out, cond_f h2.out]
   exact bodyPost_ret (v := vS scalar_All) (by simp [results, Tryz.results75, go_sem, r0, r1, r2, r3, r4, r5, vS]) rfl ⟨(by first | (rw [HF]; done) | (rw [HF]; rfl)), HS.out.below⟩
  ·replace h2 := hid h2
   go_upto_region 3 with fail
   refine upb 7 (HS.out.drew.forget 2 0 6 rfl) rfl ?_
   simp only [Blk.dropC, noneM, sA, sB]
   refine tc 0 27 #[] (vU (P.mk 0#64 18446744073709551615#64)) rfl rfl (by intro x hx; exact tnum_All_any _) ?_
   simp only [sA, sB, vU]
   refine tv 1 (.pointer (some ⟨w.heap.size, 2, none⟩)) rfl rfl (by intro x hx; go_simp; all_goals exact rfl) ?_
   simp only [sA, sB]
   refine tv 2 (.pointer (some ⟨w.heap.size, 3, none⟩)) rfl rfl (by intro x hx; go_simp; all_goals exact rfl) ?_
   simp only [sA, sB]
   refine tv 3 (.int .u64 (tn (x2.u.hi))) rfl rfl (by intro x hx; have f0 := hx.load 0 3 rfl rfl; go_simp; all_goals exact rfl) ?_
   simp only [sA, sB]
   refine tv 4 (.agg #[.int .u64 0, .int .u64 (tn (x2.u.hi))]) rfl rfl (by intro x hx; go_simp; all_goals exact rfl) ?_
   simp only [sA, sB]
   refine tc 5 64 #[vU (P.mk 0#64 18446744073709551615#64), vU (P.mk 0#64 x2.u.hi)] (vS (Sc.mk (P.mk 0#64 18446744073709551615#64) (P.mk 0#64 x2.u.hi) (P.mk 9223372036854775808#64 9223372036854775807#64))) rfl rfl (by intro x hx; exact scalar_unordered_any (P.mk 0#64 18446744073709551615#64) (P.mk 0#64 x2.u.hi) _) ?_
   simp only [sA, sB, vS]
   refine ts 6 2 0 (cS (Sc.mk (P.mk 0#64 18446744073709551615#64) (P.mk 0#64 x2.u.hi) (P.mk 9223372036854775808#64 9223372036854775807#64))) rfl rfl rfl (by intro x hx; obtain ⟨⟨_, z0, q0⟩, ⟨_, z1, q1⟩, ⟨_, z2, q2⟩, ⟨_, z3, q3⟩, ⟨_, z4, q4⟩, ⟨_, z5, q5⟩⟩ := hx.at6 2 0 rfl; go_simp; all_goals rfl) ?_
   simp only [Blk.putC, setM, cS, sA, sB]
   clear HS
   refine td fun W3 HS => ?_
   go_wp2
   obtain ⟨r0, r1, r2, r3, r4, r5⟩ := HS.out.six 2 0 rfl rfl
   have HF : scalar_shift x0 x1 x2 x3 = Sc.mk (P.mk 0#64 18446744073709551615#64) (P.mk 0#64 x2.u.hi) (P.mk 9223372036854775808#64 9223372036854775807#64) := by
     unfold scalar_shift
     rw [cond_t h1.out, cond_t h2.out]
   exact bodyPost_ret (v := vS (Sc.mk (P.mk 0#64 18446744073709551615#64) (P.mk 0#64 x2.u.hi) (P.mk 9223372036854775808#64 9223372036854775807#64))) (by simp [results, Tryz.results75, go_sem, r0, r1, r2, r3, r4, r5, vS]) rfl ⟨(by first | (rw [HF]; done) | (rw [HF]; rfl)), HS.out.below⟩
def scalar_result (x0 : BitVec 64) (x1 : BitVec 64) (x2 : Sc) (x3 : Sc)  : Sc :=
 bif (x0 == 0#64) then (Sc.mk (tnAdd x2.t x3.t) (span_Add x2.u x3.u) (span_Sadd x2.s x3.s)) else (bif (x0 == 16#64) then (Sc.mk (tnSub x2.t x3.t) (span_Sub x2.u x3.u) (span_Ssub x2.s x3.s)) else (bif (x0 == 128#64) then (Sc.mk (tnSub (Sc.mk (P.mk 0#64 0#64) (P.mk 0#64 0#64) (P.mk 0#64 0#64)).t x2.t) (span_Sub (Sc.mk (P.mk 0#64 0#64) (P.mk 0#64 0#64) (P.mk 0#64 0#64)).u x2.u) (span_Ssub (Sc.mk (P.mk 0#64 0#64) (P.mk 0#64 0#64) (P.mk 0#64 0#64)).s x2.s)) else (bif (x0 == 32#64) then (Sc.mk (tnMul x2.t x3.t) (span_Mul x2.u x3.u) (P.mk 9223372036854775808#64 9223372036854775807#64)) else (bif (x0 == 80#64) then (Sc.mk (tnAnd x2.t x3.t) (P.mk 0#64 (minU x2.u.hi x3.u.hi)) (P.mk 9223372036854775808#64 9223372036854775807#64)) else (bif (x0 == 64#64) then (Sc.mk (tnOr x2.t x3.t) (P.mk (maxU x2.u.lo x3.u.lo) (onesV (maxU x2.u.hi x3.u.hi))) (P.mk 9223372036854775808#64 9223372036854775807#64)) else (bif (x0 == 160#64) then (Sc.mk (tnXor x2.t x3.t) (P.mk 0#64 (onesV (maxU x2.u.hi x3.u.hi))) (P.mk 9223372036854775808#64 9223372036854775807#64)) else (bif (x0 == 48#64) then (Sc.mk (P.mk 0#64 18446744073709551615#64) (span_Div x2.u x3.u) (P.mk 9223372036854775808#64 9223372036854775807#64)) else (bif (x0 == 144#64) then (Sc.mk (P.mk 0#64 18446744073709551615#64) (span_Mod x2.u x3.u) (P.mk 9223372036854775808#64 9223372036854775807#64)) else (bif (x0 == 176#64) then (x3) else (bif (x0 == 96#64) then (scalar_shift x0 x1 x2 x3) else (bif (x0 == 112#64) then (scalar_shift x0 x1 x2 x3) else (bif (x0 == 192#64) then (scalar_shift x0 x1 x2 x3) else (scalar_All)))))))))))))
set_option maxHeartbeats 8000000 in
theorem scalar_result_any (x0 : BitVec 64) (x1 : BitVec 64) (x2 : Sc) (x3 : Sc)  (hw : (x1 == 0#64) = false) (w : World) (hT : Tn.Tab w) :
   Calls Tryz.prog 24 #[.int .i64 (ti (x0)), .int .u64 (tn (x1)), vS x2, vS x3] w fun e w' => e = .returned (vS (scalar_result x0 x1 x2 x3)) ∧ Below w.heap.size w w' := by
 have HT := hid hT
 clear hT
 simp only [vS]
 have Hhw := hid hw
 clear hw
 go_enter Tryz.func24, Tryz.ntmps24
 have HS : Hid (St w [⟨w.heap.size, [some (.int .u64 (tn (x2.t.lo))), some (.int .u64 (tn (x2.t.hi))), some (.int .u64 (tn (x2.u.lo))), some (.int .u64 (tn (x2.u.hi))), some (.int .i64 (ti (x2.s.lo))), some (.int .i64 (ti (x2.s.hi)))], 31⟩, ⟨w.heap.size + 1, [some (.int .u64 (tn (x3.t.lo))), some (.int .u64 (tn (x3.t.hi))), some (.int .u64 (tn (x3.u.lo))), some (.int .u64 (tn (x3.u.hi))), some (.int .i64 (ti (x3.s.lo))), some (.int .i64 (ti (x3.s.hi)))], 31⟩, ⟨w.heap.size + 2, [some (.int .u64 0), some (.int .u64 0), some (.int .u64 0), some (.int .u64 0), some (.int .i64 0), some (.int .i64 0)], 31⟩] _) := hid ((((st_nil w).alloc (k := w.heap.size) rfl [.int .u64 (tn (x2.t.lo)), .int .u64 (tn (x2.t.hi)), .int .u64 (tn (x2.u.lo)), .int .u64 (tn (x2.u.hi)), .int .i64 (ti (x2.s.lo)), .int .i64 (ti (x2.s.hi))] 31).alloc (k := w.heap.size + 1) (by simp) [.int .u64 (tn (x3.t.lo)), .int .u64 (tn (x3.t.hi)), .int .u64 (tn (x3.u.lo)), .int .u64 (tn (x3.u.hi)), .int .i64 (ti (x3.s.lo)), .int .i64 (ti (x3.s.hi))] 31).alloc (k := w.heap.size + 2) (by simp) [.int .u64 0, .int .u64 0, .int .u64 0, .int .u64 0, .int .i64 0, .int .i64 0] 31)
 go_upto_region 1 with fail
 refine lnb HS.out rfl ?_
 refine lm 0 0 rfl rfl rfl rfl ?_
 simp only [sA, sB]
 clear HS
 refine ld fun W1 HS => ?_
 go_upto_region 2 with fail
 refine lnb HS.out rfl ?_
 refine lv 0 (.bool ((x0 == 0#64))) rfl rfl (by intro x hx; go_simp; (first | done | exact eqIT x0 0#64 | exact congrArg _ (eqIT x0 0#64) | (rw [eqIT x0 0#64]; done) | (rw [eqIT x0 0#64]; rfl))) ?_
 simp only [sA, sB]
 refine la 1 11 rfl rfl rfl rfl ?_
 simp only [sA, sB]
 clear HS
 refine ld fun W2 HS => ?_
 cases h1 : ((x0 == 0#64))
 ·replace h1 := hid h1
  go_upto_region 4 with fail
  refine lnb HS.out rfl ?_
  refine lv 0 (.bool ((x0 == 16#64))) rfl rfl (by intro x hx; go_simp; (first | done | exact eqIT x0 16#64 | exact congrArg _ (eqIT x0 16#64) | (rw [eqIT x0 16#64]; done) | (rw [eqIT x0 16#64]; rfl))) ?_
  simp only [sA, sB]
  refine la 1 29 rfl rfl rfl rfl ?_
  simp only [sA, sB]
  clear HS
  refine ld fun W3 HS => ?_
  cases h2 : ((x0 == 16#64))
  ·replace h2 := hid h2
   go_upto_region 6 with fail
   refine lnb HS.out rfl ?_
   refine lv 0 (.bool ((x0 == 128#64))) rfl rfl (by intro x hx; go_simp; (first | done | exact eqIT x0 128#64 | exact congrArg _ (eqIT x0 128#64) | (rw [eqIT x0 128#64]; done) | (rw [eqIT x0 128#64]; rfl))) ?_
   simp only [sA, sB]
   refine la 1 34 rfl rfl rfl rfl ?_
   simp only [sA, sB]
   clear HS
   refine ld fun W4 HS => ?_
   cases h3 : ((x0 == 128#64))
   ·replace h3 := hid h3
    go_upto_region 8 with fail
    refine lnb HS.out rfl ?_
    refine lv 0 (.bool ((x0 == 32#64))) rfl rfl (by intro x hx; go_simp; (first | done | exact eqIT x0 32#64 | exact congrArg _ (eqIT x0 32#64) | (rw [eqIT x0 32#64]; done) | (rw [eqIT x0 32#64]; rfl))) ?_
    simp only [sA, sB]
    refine la 1 39 rfl rfl rfl rfl ?_
    simp only [sA, sB]
    clear HS
    refine ld fun W5 HS => ?_
    cases h4 : ((x0 == 32#64))
    ·replace h4 := hid h4
     go_upto_region 10 with fail
     refine lnb HS.out rfl ?_
     refine lv 0 (.bool ((x0 == 80#64))) rfl rfl (by intro x hx; go_simp; (first | done | exact eqIT x0 80#64 | exact congrArg _ (eqIT x0 80#64) | (rw [eqIT x0 80#64]; done) | (rw [eqIT x0 80#64]; rfl))) ?_
     simp only [sA, sB]
     refine la 1 52 rfl rfl rfl rfl ?_
     simp only [sA, sB]
     clear HS
     refine ld fun W6 HS => ?_
     cases h5 : ((x0 == 80#64))
     ·replace h5 := hid h5
      go_upto_region 12 with fail
      refine lnb HS.out rfl ?_
      refine lv 0 (.bool ((x0 == 64#64))) rfl rfl (by intro x hx; go_simp; (first | done | exact eqIT x0 64#64 | exact congrArg _ (eqIT x0 64#64) | (rw [eqIT x0 64#64]; done) | (rw [eqIT x0 64#64]; rfl))) ?_
      simp only [sA, sB]
      refine la 1 65 rfl rfl rfl rfl ?_
      simp only [sA, sB]
      clear HS
      refine ld fun W7 HS => ?_
      cases h6 : ((x0 == 64#64))
      ·replace h6 := hid h6
       go_upto_region 14 with fail
       refine lnb HS.out rfl ?_
       refine lv 0 (.bool ((x0 == 160#64))) rfl rfl (by intro x hx; go_simp; (first | done | exact eqIT x0 160#64 | exact congrArg _ (eqIT x0 160#64) | (rw [eqIT x0 160#64]; done) | (rw [eqIT x0 160#64]; rfl))) ?_
       simp only [sA, sB]
       refine la 1 78 rfl rfl rfl rfl ?_
       simp only [sA, sB]
       clear HS
       refine ld fun W8 HS => ?_
       cases h7 : ((x0 == 160#64))
       ·replace h7 := hid h7
        go_upto_region 16 with fail
        refine lnb HS.out rfl ?_
        refine lv 0 (.bool ((x0 == 48#64))) rfl rfl (by intro x hx; go_simp; (first | done | exact eqIT x0 48#64 | exact congrArg _ (eqIT x0 48#64) | (rw [eqIT x0 48#64]; done) | (rw [eqIT x0 48#64]; rfl))) ?_
        simp only [sA, sB]
        refine la 1 91 rfl rfl rfl rfl ?_
        simp only [sA, sB]
        clear HS
        refine ld fun W9 HS => ?_
        cases h8 : ((x0 == 48#64))
        ·replace h8 := hid h8
         go_upto_region 18 with fail
         refine lnb HS.out rfl ?_
         refine lv 0 (.bool ((x0 == 144#64))) rfl rfl (by intro x hx; go_simp; (first | done | exact eqIT x0 144#64 | exact congrArg _ (eqIT x0 144#64) | (rw [eqIT x0 144#64]; done) | (rw [eqIT x0 144#64]; rfl))) ?_
         simp only [sA, sB]
         refine la 1 100 rfl rfl rfl rfl ?_
         simp only [sA, sB]
         clear HS
         refine ld fun W10 HS => ?_
         cases h9 : ((x0 == 144#64))
         ·replace h9 := hid h9
          go_upto_region 20 with fail
          refine lnb HS.out rfl ?_
          refine lv 0 (.bool ((x0 == 176#64))) rfl rfl (by intro x hx; go_simp; (first | done | exact eqIT x0 176#64 | exact congrArg _ (eqIT x0 176#64) | (rw [eqIT x0 176#64]; done) | (rw [eqIT x0 176#64]; rfl))) ?_
          simp only [sA, sB]
          refine la 1 109 rfl rfl rfl rfl ?_
          simp only [sA, sB]
          clear HS
          refine ld fun W11 HS => ?_
          cases h10 : ((x0 == 176#64))
          ·replace h10 := hid h10
           go_upto_region 22 with fail
           refine lnb HS.out rfl ?_
           refine lv 0 (.bool ((x0 == 96#64))) rfl rfl (by intro x hx; go_simp; (first | done | exact eqIT x0 96#64 | exact congrArg _ (eqIT x0 96#64) | (rw [eqIT x0 96#64]; done) | (rw [eqIT x0 96#64]; rfl))) ?_
           simp only [sA, sB]
           refine la 1 112 rfl rfl rfl rfl ?_
           simp only [sA, sB]
           clear HS
           refine ld fun W12 HS => ?_
           cases h11 : ((x0 == 96#64))
           ·replace h11 := hid h11
            go_upto_region 23 with fail
            refine lnb HS.out rfl ?_
            refine lv 0 (.bool ((x0 == 112#64))) rfl rfl (by intro x hx; go_simp; (first | done | exact eqIT x0 112#64 | exact congrArg _ (eqIT x0 112#64) | (rw [eqIT x0 112#64]; done) | (rw [eqIT x0 112#64]; rfl))) ?_
            simp only [sA, sB]
            refine la 1 113 rfl rfl rfl rfl ?_
            simp only [sA, sB]
            clear HS
            refine ld fun W13 HS => ?_
            cases h12 : ((x0 == 112#64))
            ·replace h12 := hid h12
             go_upto_region 24 with fail
             refine lnb HS.out rfl ?_
             refine lv 0 (.bool ((x0 == 192#64))) rfl rfl (by intro x hx; go_simp; (first | done | exact eqIT x0 192#64 | exact congrArg _ (eqIT x0 192#64) | (rw [eqIT x0 192#64]; done) | (rw [eqIT x0 192#64]; rfl))) ?_
             simp only [sA, sB]
             refine la 1 114 rfl rfl rfl rfl ?_
             simp only [sA, sB]
             clear HS
             refine ld fun W14 HS => ?_
             cases h13 : ((x0 == 192#64))
             ·replace h13 := hid h13
              go_upto_region 26 with fail
              refine lnb HS.out rfl ?_
              refine lc 0 9 #[] (vS scalar_All) rfl rfl (by intro x hx; exact scalar_All_any _) ?_
              simp only [sA, sB, vS]
              refine ls 1 2 0 (cS scalar_All) rfl rfl rfl (by intro x hx; obtain ⟨⟨_, z0, q0⟩, ⟨_, z1, q1⟩, ⟨_, z2, q2⟩, ⟨_, z3, q3⟩, ⟨_, z4, q4⟩, ⟨_, z5, q5⟩⟩ := hx.at6 2 0 rfl; go_simp; all_goals rfl) ?_
              simp only [Blk.putC, setM, cS, sA, sB]
              clear HS
              refine ld fun W15 HS => ?_
              go_wp2
              obtain ⟨r0, r1, r2, r3, r4, r5⟩ := HS.out.six 2 0 rfl rfl
              have HF : scalar_result x0 x1 x2 x3 = scalar_All := by
                unfold scalar_result
                rw [cond_f h1.out, cond_f h2.out, cond_f h3.out, cond_f h4.out, cond_f h5.out, cond_f h6.out, cond_f h7.out, cond_f h8.out, cond_f h9.out, cond_f h10.out, cond_f h11.out, cond_f h12.out, cond_f h13.out]
              exact bodyPost_ret (v := vS scalar_All) (by simp [results, Tryz.results24, go_sem, r0, r1, r2, r3, r4, r5, vS]) rfl ⟨(by first | (rw [HF]; done) | (rw [HF]; rfl)), HS.out.below⟩
             ·replace h13 := hid h13
              go_upto_region 25 with fail
              refine lnb HS.out rfl ?_
              refine lm 0 0 rfl rfl rfl rfl ?_
              simp only [sA, sB]
              refine lm 1 1 rfl rfl rfl rfl ?_
              simp only [sA, sB]
              refine lv 2 (vS x2) rfl rfl (by intro x hx; obtain ⟨f0, f1, f2, f3, f4, f5⟩ := hx.six 0 0 rfl rfl; go_simp; all_goals exact rfl) ?_
              simp only [sA, sB, vS]
              refine lv 3 (vS x3) rfl rfl (by intro x hx; obtain ⟨f0, f1, f2, f3, f4, f5⟩ := hx.six 1 0 rfl rfl; go_simp; all_goals exact rfl) ?_
              simp only [sA, sB, vS]
              refine lc 4 75 #[.int .i64 (ti (x0)), .int .u64 (tn (x1)), vS x2, vS x3] (vS (scalar_shift x0 x1 x2 x3)) rfl rfl (by intro x hx; exact scalar_shift_any x0 x1 x2 x3 Hhw.out _) ?_
              simp only [sA, sB, vS]
              refine ls 5 2 0 (cS (scalar_shift x0 x1 x2 x3)) rfl rfl rfl (by intro x hx; obtain ⟨⟨_, z0, q0⟩, ⟨_, z1, q1⟩, ⟨_, z2, q2⟩, ⟨_, z3, q3⟩, ⟨_, z4, q4⟩, ⟨_, z5, q5⟩⟩ := hx.at6 2 0 rfl; go_simp; all_goals rfl) ?_
              simp only [Blk.putC, setM, cS, sA, sB]
              clear HS
              refine ld fun W15 HS => ?_
              go_wp2
              obtain ⟨r0, r1, r2, r3, r4, r5⟩ := HS.out.six 2 0 rfl rfl
              have HF : scalar_result x0 x1 x2 x3 = scalar_shift x0 x1 x2 x3 := by
                unfold scalar_result
                rw [cond_f h1.out, cond_f h2.out, cond_f h3.out, cond_f h4.out, cond_f h5.out, cond_f h6.out, cond_f h7.out, cond_f h8.out, cond_f h9.out, cond_f h10.out, cond_f h11.out, cond_f h12.out, cond_t h13.out]
              exact bodyPost_ret (v := vS (scalar_shift x0 x1 x2 x3)) (by simp [results, Tryz.results24, go_sem, r0, r1, r2, r3, r4, r5, vS]) rfl ⟨(by first | (rw [HF]; done) | (rw [HF]; rfl)), HS.out.below⟩
            ·replace h12 := hid h12
             go_upto_region 25 with fail
             refine lnb HS.out rfl ?_
             refine lm 0 0 rfl rfl rfl rfl ?_
             simp only [sA, sB]
             refine lm 1 1 rfl rfl rfl rfl ?_
             simp only [sA, sB]
             refine lv 2 (vS x2) rfl rfl (by intro x hx; obtain ⟨f0, f1, f2, f3, f4, f5⟩ := hx.six 0 0 rfl rfl; go_simp; all_goals exact rfl) ?_
             simp only [sA, sB, vS]
             refine lv 3 (vS x3) rfl rfl (by intro x hx; obtain ⟨f0, f1, f2, f3, f4, f5⟩ := hx.six 1 0 rfl rfl; go_simp; all_goals exact rfl) ?_
             simp only [sA, sB, vS]
             refine lc 4 75 #[.int .i64 (ti (x0)), .int .u64 (tn (x1)), vS x2, vS x3] (vS (scalar_shift x0 x1 x2 x3)) rfl rfl (by intro x hx; exact scalar_shift_any x0 x1 x2 x3 Hhw.out _) ?_
             simp only [sA, sB, vS]
             refine ls 5 2 0 (cS (scalar_shift x0 x1 x2 x3)) rfl rfl rfl (by intro x hx; obtain ⟨⟨_, z0, q0⟩, ⟨_, z1, q1⟩, ⟨_, z2, q2⟩, ⟨_, z3, q3⟩, ⟨_, z4, q4⟩, ⟨_, z5, q5⟩⟩ := hx.at6 2 0 rfl; go_simp; all_goals rfl) ?_
             simp only [Blk.putC, setM, cS, sA, sB]
             clear HS
             refine ld fun W14 HS => ?_
             go_wp2
             obtain ⟨r0, r1, r2, r3, r4, r5⟩ := HS.out.six 2 0 rfl rfl
             have HF : scalar_result x0 x1 x2 x3 = scalar_shift x0 x1 x2 x3 := by
               unfold scalar_result
               rw [cond_f h1.out, cond_f h2.out, cond_f h3.out, cond_f h4.out, cond_f h5.out, cond_f h6.out, cond_f h7.out, cond_f h8.out, cond_f h9.out, cond_f h10.out, cond_f h11.out, cond_t h12.out]
             exact bodyPost_ret (v := vS (scalar_shift x0 x1 x2 x3)) (by simp [results, Tryz.results24, go_sem, r0, r1, r2, r3, r4, r5, vS]) rfl ⟨(by first | (rw [HF]; done) | (rw [HF]; rfl)), HS.out.below⟩
           ·replace h11 := hid h11
            go_upto_region 25 with fail
            refine lnb HS.out rfl ?_
            refine lm 0 0 rfl rfl rfl rfl ?_
            simp only [sA, sB]
            refine lm 1 1 rfl rfl rfl rfl ?_
            simp only [sA, sB]
            refine lv 2 (vS x2) rfl rfl (by intro x hx; obtain ⟨f0, f1, f2, f3, f4, f5⟩ := hx.six 0 0 rfl rfl; go_simp; all_goals exact rfl) ?_
            simp only [sA, sB, vS]
            refine lv 3 (vS x3) rfl rfl (by intro x hx; obtain ⟨f0, f1, f2, f3, f4, f5⟩ := hx.six 1 0 rfl rfl; go_simp; all_goals exact rfl) ?_
            simp only [sA, sB, vS]
            refine lc 4 75 #[.int .i64 (ti (x0)), .int .u64 (tn (x1)), vS x2, vS x3] (vS (scalar_shift x0 x1 x2 x3)) rfl rfl (by intro x hx; exact scalar_shift_any x0 x1 x2 x3 Hhw.out _) ?_
            simp only [sA, sB, vS]
            refine ls 5 2 0 (cS (scalar_shift x0 x1 x2 x3)) rfl rfl rfl (by intro x hx; obtain ⟨⟨_, z0, q0⟩, ⟨_, z1, q1⟩, ⟨_, z2, q2⟩, ⟨_, z3, q3⟩, ⟨_, z4, q4⟩, ⟨_, z5, q5⟩⟩ := hx.at6 2 0 rfl; go_simp; all_goals rfl) ?_
            simp only [Blk.putC, setM, cS, sA, sB]
            clear HS
            refine ld fun W13 HS => ?_
            go_wp2
            obtain ⟨r0, r1, r2, r3, r4, r5⟩ := HS.out.six 2 0 rfl rfl
            have HF : scalar_result x0 x1 x2 x3 = scalar_shift x0 x1 x2 x3 := by
              unfold scalar_result
              rw [cond_f h1.out, cond_f h2.out, cond_f h3.out, cond_f h4.out, cond_f h5.out, cond_f h6.out, cond_f h7.out, cond_f h8.out, cond_f h9.out, cond_f h10.out, cond_t h11.out]
            exact bodyPost_ret (v := vS (scalar_shift x0 x1 x2 x3)) (by simp [results, Tryz.results24, go_sem, r0, r1, r2, r3, r4, r5, vS]) rfl ⟨(by first | (rw [HF]; done) | (rw [HF]; rfl)), HS.out.below⟩
          ·replace h10 := hid h10
           go_upto_region 21 with fail
           refine lnb HS.out rfl ?_
           refine lv 0 (vS x3) rfl rfl (by intro x hx; obtain ⟨f0, f1, f2, f3, f4, f5⟩ := hx.six 1 0 rfl rfl; go_simp; all_goals exact rfl) ?_
           simp only [sA, sB, vS]
           refine ls 1 2 0 (cS x3) rfl rfl rfl (by intro x hx; obtain ⟨⟨_, z0, q0⟩, ⟨_, z1, q1⟩, ⟨_, z2, q2⟩, ⟨_, z3, q3⟩, ⟨_, z4, q4⟩, ⟨_, z5, q5⟩⟩ := hx.at6 2 0 rfl; go_simp; all_goals rfl) ?_
           simp only [Blk.putC, setM, cS, sA, sB]
           clear HS
           refine ld fun W12 HS => ?_
           go_wp2
           obtain ⟨r0, r1, r2, r3, r4, r5⟩ := HS.out.six 2 0 rfl rfl
           have HF : scalar_result x0 x1 x2 x3 = x3 := by
             unfold scalar_result
             rw [cond_f h1.out, cond_f h2.out, cond_f h3.out, cond_f h4.out, cond_f h5.out, cond_f h6.out, cond_f h7.out, cond_f h8.out, cond_f h9.out, cond_t h10.out]
           exact bodyPost_ret (v := vS x3) (by simp [results, Tryz.results24, go_sem, r0, r1, r2, r3, r4, r5, vS]) rfl ⟨(by first | (rw [HF]; done) | (rw [HF]; rfl)), HS.out.below⟩
         ·replace h9 := hid h9
          go_upto_region 19 with fail
          refine upb 8 (HS.out.drew.forget 2 0 6 rfl) rfl ?_
          simp only [Blk.dropC, noneM, sA, sB]
          refine tc 0 27 #[] (vU (P.mk 0#64 18446744073709551615#64)) rfl rfl (by intro x hx; exact tnum_All_any _) ?_
          simp only [sA, sB, vU]
          refine tv 1 (.pointer (some ⟨w.heap.size, 2, none⟩)) rfl rfl (by intro x hx; go_simp; all_goals exact rfl) ?_
          simp only [sA, sB]
          refine tv 2 (vU x2.u) rfl rfl (by intro x hx; obtain ⟨f0, f1⟩ := hx.two 0 2 rfl rfl; go_simp; all_goals exact rfl) ?_
          simp only [sA, sB, vU]
          refine tv 3 (.pointer (some ⟨w.heap.size + 1, 2, none⟩)) rfl rfl (by intro x hx; go_simp; all_goals exact rfl) ?_
          simp only [sA, sB]
          refine tv 4 (vU x3.u) rfl rfl (by intro x hx; obtain ⟨f0, f1⟩ := hx.two 1 2 rfl rfl; go_simp; all_goals exact rfl) ?_
          simp only [sA, sB, vU]
          refine tc 5 74 #[vU x2.u, vU x3.u] (vU (span_Mod x2.u x3.u)) rfl rfl (by intro x hx; exact span_Mod_any x2.u x3.u _) ?_
          simp only [sA, sB, vU]
          refine tc 6 64 #[vU (P.mk 0#64 18446744073709551615#64), vU (span_Mod x2.u x3.u)] (vS (Sc.mk (P.mk 0#64 18446744073709551615#64) (span_Mod x2.u x3.u) (P.mk 9223372036854775808#64 9223372036854775807#64))) rfl rfl (by intro x hx; exact scalar_unordered_any (P.mk 0#64 18446744073709551615#64) (span_Mod x2.u x3.u) _) ?_
          simp only [sA, sB, vS]
          refine ts 7 2 0 (cS (Sc.mk (P.mk 0#64 18446744073709551615#64) (span_Mod x2.u x3.u) (P.mk 9223372036854775808#64 9223372036854775807#64))) rfl rfl rfl (by intro x hx; obtain ⟨⟨_, z0, q0⟩, ⟨_, z1, q1⟩, ⟨_, z2, q2⟩, ⟨_, z3, q3⟩, ⟨_, z4, q4⟩, ⟨_, z5, q5⟩⟩ := hx.at6 2 0 rfl; go_simp; all_goals rfl) ?_
          simp only [Blk.putC, setM, cS, sA, sB]
          clear HS
          refine td fun W11 HS => ?_
          go_wp2
          obtain ⟨r0, r1, r2, r3, r4, r5⟩ := HS.out.six 2 0 rfl rfl
          have HF : scalar_result x0 x1 x2 x3 = Sc.mk (P.mk 0#64 18446744073709551615#64) (span_Mod x2.u x3.u) (P.mk 9223372036854775808#64 9223372036854775807#64) := by
            unfold scalar_result
            rw [cond_f h1.out, cond_f h2.out, cond_f h3.out, cond_f h4.out, cond_f h5.out, cond_f h6.out, cond_f h7.out, cond_f h8.out, cond_t h9.out]
          exact bodyPost_ret (v := vS (Sc.mk (P.mk 0#64 18446744073709551615#64) (span_Mod x2.u x3.u) (P.mk 9223372036854775808#64 9223372036854775807#64))) (by simp [results, Tryz.results24, go_sem, r0, r1, r2, r3, r4, r5, vS]) rfl ⟨(by first | (rw [HF]; done) | (rw [HF]; rfl)), HS.out.below⟩
        ·replace h8 := hid h8
         go_upto_region 17 with fail
         refine upb 8 (HS.out.drew.forget 2 0 6 rfl) rfl ?_
         simp only [Blk.dropC, noneM, sA, sB]
         refine tc 0 27 #[] (vU (P.mk 0#64 18446744073709551615#64)) rfl rfl (by intro x hx; exact tnum_All_any _) ?_
         simp only [sA, sB, vU]
         refine tv 1 (.pointer (some ⟨w.heap.size, 2, none⟩)) rfl rfl (by intro x hx; go_simp; all_goals exact rfl) ?_
         simp only [sA, sB]
         refine tv 2 (vU x2.u) rfl rfl (by intro x hx; obtain ⟨f0, f1⟩ := hx.two 0 2 rfl rfl; go_simp; all_goals exact rfl) ?_
         simp only [sA, sB, vU]
         refine tv 3 (.pointer (some ⟨w.heap.size + 1, 2, none⟩)) rfl rfl (by intro x hx; go_simp; all_goals exact rfl) ?_
         simp only [sA, sB]
         refine tv 4 (vU x3.u) rfl rfl (by intro x hx; obtain ⟨f0, f1⟩ := hx.two 1 2 rfl rfl; go_simp; all_goals exact rfl) ?_
         simp only [sA, sB, vU]
         refine tc 5 73 #[vU x2.u, vU x3.u] (vU (span_Div x2.u x3.u)) rfl rfl (by intro x hx; exact span_Div_any x2.u x3.u _) ?_
         simp only [sA, sB, vU]
         refine tc 6 64 #[vU (P.mk 0#64 18446744073709551615#64), vU (span_Div x2.u x3.u)] (vS (Sc.mk (P.mk 0#64 18446744073709551615#64) (span_Div x2.u x3.u) (P.mk 9223372036854775808#64 9223372036854775807#64))) rfl rfl (by intro x hx; exact scalar_unordered_any (P.mk 0#64 18446744073709551615#64) (span_Div x2.u x3.u) _) ?_
         simp only [sA, sB, vS]
         refine ts 7 2 0 (cS (Sc.mk (P.mk 0#64 18446744073709551615#64) (span_Div x2.u x3.u) (P.mk 9223372036854775808#64 9223372036854775807#64))) rfl rfl rfl (by intro x hx; obtain ⟨⟨_, z0, q0⟩, ⟨_, z1, q1⟩, ⟨_, z2, q2⟩, ⟨_, z3, q3⟩, ⟨_, z4, q4⟩, ⟨_, z5, q5⟩⟩ := hx.at6 2 0 rfl; go_simp; all_goals rfl) ?_
         simp only [Blk.putC, setM, cS, sA, sB]
         clear HS
         refine td fun W10 HS => ?_
         go_wp2
         obtain ⟨r0, r1, r2, r3, r4, r5⟩ := HS.out.six 2 0 rfl rfl
         have HF : scalar_result x0 x1 x2 x3 = Sc.mk (P.mk 0#64 18446744073709551615#64) (span_Div x2.u x3.u) (P.mk 9223372036854775808#64 9223372036854775807#64) := by
           unfold scalar_result
           rw [cond_f h1.out, cond_f h2.out, cond_f h3.out, cond_f h4.out, cond_f h5.out, cond_f h6.out, cond_f h7.out, cond_t h8.out]
         exact bodyPost_ret (v := vS (Sc.mk (P.mk 0#64 18446744073709551615#64) (span_Div x2.u x3.u) (P.mk 9223372036854775808#64 9223372036854775807#64))) (by simp [results, Tryz.results24, go_sem, r0, r1, r2, r3, r4, r5, vS]) rfl ⟨(by first | (rw [HF]; done) | (rw [HF]; rfl)), HS.out.below⟩
       ·replace h7 := hid h7
        go_upto_region 15 with fail
        refine upb 12 (HS.out.drew.forget 2 0 6 rfl) rfl ?_
        simp only [Blk.dropC, noneM, sA, sB]
        refine tv 0 (.pointer (some ⟨w.heap.size, 0, none⟩)) rfl rfl (by intro x hx; go_simp; all_goals exact rfl) ?_
        simp only [sA, sB]
        refine tv 1 (vU x2.t) rfl rfl (by intro x hx; obtain ⟨f0, f1⟩ := hx.two 0 0 rfl rfl; go_simp; all_goals exact rfl) ?_
        simp only [sA, sB, vU]
        refine tv 2 (.pointer (some ⟨w.heap.size + 1, 0, none⟩)) rfl rfl (by intro x hx; go_simp; all_goals exact rfl) ?_
        simp only [sA, sB]
        refine tv 3 (vU x3.t) rfl rfl (by intro x hx; obtain ⟨f0, f1⟩ := hx.two 1 0 rfl rfl; go_simp; all_goals exact rfl) ?_
        simp only [sA, sB, vU]
        refine tc 4 71 #[vU x2.t, vU x3.t] (vU (tnXor x2.t x3.t)) rfl rfl (by intro x hx; exact tnXor_any x2.t x3.t _) ?_
        simp only [sA, sB, vU]
        refine tv 5 (.pointer (some ⟨w.heap.size, 2, none⟩)) rfl rfl (by intro x hx; go_simp; all_goals exact rfl) ?_
        simp only [sA, sB]
        refine tv 6 (vU x2.u) rfl rfl (by intro x hx; obtain ⟨f0, f1⟩ := hx.two 0 2 rfl rfl; go_simp; all_goals exact rfl) ?_
        simp only [sA, sB, vU]
        refine tv 7 (.pointer (some ⟨w.heap.size + 1, 2, none⟩)) rfl rfl (by intro x hx; go_simp; all_goals exact rfl) ?_
        simp only [sA, sB]
        refine tv 8 (vU x3.u) rfl rfl (by intro x hx; obtain ⟨f0, f1⟩ := hx.two 1 2 rfl rfl; go_simp; all_goals exact rfl) ?_
        simp only [sA, sB, vU]
        refine tc 9 72 #[vU x2.u, vU x3.u] (vU (P.mk 0#64 (onesV (maxU x2.u.hi x3.u.hi)))) rfl rfl (by intro x hx; exact span_Xor_any x2.u x3.u _) ?_
        simp only [sA, sB, vU]
        refine tc 10 64 #[vU (tnXor x2.t x3.t), vU (P.mk 0#64 (onesV (maxU x2.u.hi x3.u.hi)))] (vS (Sc.mk (tnXor x2.t x3.t) (P.mk 0#64 (onesV (maxU x2.u.hi x3.u.hi))) (P.mk 9223372036854775808#64 9223372036854775807#64))) rfl rfl (by intro x hx; exact scalar_unordered_any (tnXor x2.t x3.t) (P.mk 0#64 (onesV (maxU x2.u.hi x3.u.hi))) _) ?_
        simp only [sA, sB, vS]
        refine ts 11 2 0 (cS (Sc.mk (tnXor x2.t x3.t) (P.mk 0#64 (onesV (maxU x2.u.hi x3.u.hi))) (P.mk 9223372036854775808#64 9223372036854775807#64))) rfl rfl rfl (by intro x hx; obtain ⟨⟨_, z0, q0⟩, ⟨_, z1, q1⟩, ⟨_, z2, q2⟩, ⟨_, z3, q3⟩, ⟨_, z4, q4⟩, ⟨_, z5, q5⟩⟩ := hx.at6 2 0 rfl; go_simp; all_goals rfl) ?_
        simp only [Blk.putC, setM, cS, sA, sB]
        clear HS
        refine td fun W9 HS => ?_
        go_wp2
        obtain ⟨r0, r1, r2, r3, r4, r5⟩ := HS.out.six 2 0 rfl rfl
        have HF : scalar_result x0 x1 x2 x3 = Sc.mk (tnXor x2.t x3.t) (P.mk 0#64 (onesV (maxU x2.u.hi x3.u.hi))) (P.mk 9223372036854775808#64 9223372036854775807#64) := by
          unfold scalar_result
          rw [cond_f h1.out, cond_f h2.out, cond_f h3.out, cond_f h4.out, cond_f h5.out, cond_f h6.out, cond_t h7.out]
        exact bodyPost_ret (v := vS (Sc.mk (tnXor x2.t x3.t) (P.mk 0#64 (onesV (maxU x2.u.hi x3.u.hi))) (P.mk 9223372036854775808#64 9223372036854775807#64))) (by simp [results, Tryz.results24, go_sem, r0, r1, r2, r3, r4, r5, vS]) rfl ⟨(by first | (rw [HF]; done) | (rw [HF]; rfl)), HS.out.below⟩
      ·replace h6 := hid h6
       go_upto_region 13 with fail
       refine upb 12 (HS.out.drew.forget 2 0 6 rfl) rfl ?_
       simp only [Blk.dropC, noneM, sA, sB]
       refine tv 0 (.pointer (some ⟨w.heap.size, 0, none⟩)) rfl rfl (by intro x hx; go_simp; all_goals exact rfl) ?_
       simp only [sA, sB]
       refine tv 1 (vU x2.t) rfl rfl (by intro x hx; obtain ⟨f0, f1⟩ := hx.two 0 0 rfl rfl; go_simp; all_goals exact rfl) ?_
       simp only [sA, sB, vU]
       refine tv 2 (.pointer (some ⟨w.heap.size + 1, 0, none⟩)) rfl rfl (by intro x hx; go_simp; all_goals exact rfl) ?_
       simp only [sA, sB]
       refine tv 3 (vU x3.t) rfl rfl (by intro x hx; obtain ⟨f0, f1⟩ := hx.two 1 0 rfl rfl; go_simp; all_goals exact rfl) ?_
       simp only [sA, sB, vU]
       refine tc 4 69 #[vU x2.t, vU x3.t] (vU (tnOr x2.t x3.t)) rfl rfl (by intro x hx; exact tnOr_any x2.t x3.t _) ?_
       simp only [sA, sB, vU]
       refine tv 5 (.pointer (some ⟨w.heap.size, 2, none⟩)) rfl rfl (by intro x hx; go_simp; all_goals exact rfl) ?_
       simp only [sA, sB]
       refine tv 6 (vU x2.u) rfl rfl (by intro x hx; obtain ⟨f0, f1⟩ := hx.two 0 2 rfl rfl; go_simp; all_goals exact rfl) ?_
       simp only [sA, sB, vU]
       refine tv 7 (.pointer (some ⟨w.heap.size + 1, 2, none⟩)) rfl rfl (by intro x hx; go_simp; all_goals exact rfl) ?_
       simp only [sA, sB]
       refine tv 8 (vU x3.u) rfl rfl (by intro x hx; obtain ⟨f0, f1⟩ := hx.two 1 2 rfl rfl; go_simp; all_goals exact rfl) ?_
       simp only [sA, sB, vU]
       refine tc 9 70 #[vU x2.u, vU x3.u] (vU (P.mk (maxU x2.u.lo x3.u.lo) (onesV (maxU x2.u.hi x3.u.hi)))) rfl rfl (by intro x hx; exact span_Or_any x2.u x3.u _) ?_
       simp only [sA, sB, vU]
       refine tc 10 64 #[vU (tnOr x2.t x3.t), vU (P.mk (maxU x2.u.lo x3.u.lo) (onesV (maxU x2.u.hi x3.u.hi)))] (vS (Sc.mk (tnOr x2.t x3.t) (P.mk (maxU x2.u.lo x3.u.lo) (onesV (maxU x2.u.hi x3.u.hi))) (P.mk 9223372036854775808#64 9223372036854775807#64))) rfl rfl (by intro x hx; exact scalar_unordered_any (tnOr x2.t x3.t) (P.mk (maxU x2.u.lo x3.u.lo) (onesV (maxU x2.u.hi x3.u.hi))) _) ?_
       simp only [sA, sB, vS]
       refine ts 11 2 0 (cS (Sc.mk (tnOr x2.t x3.t) (P.mk (maxU x2.u.lo x3.u.lo) (onesV (maxU x2.u.hi x3.u.hi))) (P.mk 9223372036854775808#64 9223372036854775807#64))) rfl rfl rfl (by intro x hx; obtain ⟨⟨_, z0, q0⟩, ⟨_, z1, q1⟩, ⟨_, z2, q2⟩, ⟨_, z3, q3⟩, ⟨_, z4, q4⟩, ⟨_, z5, q5⟩⟩ := hx.at6 2 0 rfl; go_simp; all_goals rfl) ?_
       simp only [Blk.putC, setM, cS, sA, sB]
       clear HS
       refine td fun W8 HS => ?_
       go_wp2
       obtain ⟨r0, r1, r2, r3, r4, r5⟩ := HS.out.six 2 0 rfl rfl
       have HF : scalar_result x0 x1 x2 x3 = Sc.mk (tnOr x2.t x3.t) (P.mk (maxU x2.u.lo x3.u.lo) (onesV (maxU x2.u.hi x3.u.hi))) (P.mk 9223372036854775808#64 9223372036854775807#64) := by
         unfold scalar_result
         rw [cond_f h1.out, cond_f h2.out, cond_f h3.out, cond_f h4.out, cond_f h5.out, cond_t h6.out]
       exact bodyPost_ret (v := vS (Sc.mk (tnOr x2.t x3.t) (P.mk (maxU x2.u.lo x3.u.lo) (onesV (maxU x2.u.hi x3.u.hi))) (P.mk 9223372036854775808#64 9223372036854775807#64))) (by simp [results, Tryz.results24, go_sem, r0, r1, r2, r3, r4, r5, vS]) rfl ⟨(by first | (rw [HF]; done) | (rw [HF]; rfl)), HS.out.below⟩
     ·replace h5 := hid h5
      go_upto_region 11 with fail
      refine upb 12 (HS.out.drew.forget 2 0 6 rfl) rfl ?_
      simp only [Blk.dropC, noneM, sA, sB]
      refine tv 0 (.pointer (some ⟨w.heap.size, 0, none⟩)) rfl rfl (by intro x hx; go_simp; all_goals exact rfl) ?_
      simp only [sA, sB]
      refine tv 1 (vU x2.t) rfl rfl (by intro x hx; obtain ⟨f0, f1⟩ := hx.two 0 0 rfl rfl; go_simp; all_goals exact rfl) ?_
      simp only [sA, sB, vU]
      refine tv 2 (.pointer (some ⟨w.heap.size + 1, 0, none⟩)) rfl rfl (by intro x hx; go_simp; all_goals exact rfl) ?_
      simp only [sA, sB]
      refine tv 3 (vU x3.t) rfl rfl (by intro x hx; obtain ⟨f0, f1⟩ := hx.two 1 0 rfl rfl; go_simp; all_goals exact rfl) ?_
      simp only [sA, sB, vU]
      refine tc 4 67 #[vU x2.t, vU x3.t] (vU (tnAnd x2.t x3.t)) rfl rfl (by intro x hx; exact tnAnd_any x2.t x3.t _) ?_
      simp only [sA, sB, vU]
      refine tv 5 (.pointer (some ⟨w.heap.size, 2, none⟩)) rfl rfl (by intro x hx; go_simp; all_goals exact rfl) ?_
      simp only [sA, sB]
      refine tv 6 (vU x2.u) rfl rfl (by intro x hx; obtain ⟨f0, f1⟩ := hx.two 0 2 rfl rfl; go_simp; all_goals exact rfl) ?_
      simp only [sA, sB, vU]
      refine tv 7 (.pointer (some ⟨w.heap.size + 1, 2, none⟩)) rfl rfl (by intro x hx; go_simp; all_goals exact rfl) ?_
      simp only [sA, sB]
      refine tv 8 (vU x3.u) rfl rfl (by intro x hx; obtain ⟨f0, f1⟩ := hx.two 1 2 rfl rfl; go_simp; all_goals exact rfl) ?_
      simp only [sA, sB, vU]
      refine tc 9 68 #[vU x2.u, vU x3.u] (vU (P.mk 0#64 (minU x2.u.hi x3.u.hi))) rfl rfl (by intro x hx; exact span_And_any x2.u x3.u _) ?_
      simp only [sA, sB, vU]
      refine tc 10 64 #[vU (tnAnd x2.t x3.t), vU (P.mk 0#64 (minU x2.u.hi x3.u.hi))] (vS (Sc.mk (tnAnd x2.t x3.t) (P.mk 0#64 (minU x2.u.hi x3.u.hi)) (P.mk 9223372036854775808#64 9223372036854775807#64))) rfl rfl (by intro x hx; exact scalar_unordered_any (tnAnd x2.t x3.t) (P.mk 0#64 (minU x2.u.hi x3.u.hi)) _) ?_
      simp only [sA, sB, vS]
      refine ts 11 2 0 (cS (Sc.mk (tnAnd x2.t x3.t) (P.mk 0#64 (minU x2.u.hi x3.u.hi)) (P.mk 9223372036854775808#64 9223372036854775807#64))) rfl rfl rfl (by intro x hx; obtain ⟨⟨_, z0, q0⟩, ⟨_, z1, q1⟩, ⟨_, z2, q2⟩, ⟨_, z3, q3⟩, ⟨_, z4, q4⟩, ⟨_, z5, q5⟩⟩ := hx.at6 2 0 rfl; go_simp; all_goals rfl) ?_
      simp only [Blk.putC, setM, cS, sA, sB]
      clear HS
      refine td fun W7 HS => ?_
      go_wp2
      obtain ⟨r0, r1, r2, r3, r4, r5⟩ := HS.out.six 2 0 rfl rfl
      have HF : scalar_result x0 x1 x2 x3 = Sc.mk (tnAnd x2.t x3.t) (P.mk 0#64 (minU x2.u.hi x3.u.hi)) (P.mk 9223372036854775808#64 9223372036854775807#64) := by
        unfold scalar_result
        rw [cond_f h1.out, cond_f h2.out, cond_f h3.out, cond_f h4.out, cond_t h5.out]
      exact bodyPost_ret (v := vS (Sc.mk (tnAnd x2.t x3.t) (P.mk 0#64 (minU x2.u.hi x3.u.hi)) (P.mk 9223372036854775808#64 9223372036854775807#64))) (by simp [results, Tryz.results24, go_sem, r0, r1, r2, r3, r4, r5, vS]) rfl ⟨(by first | (rw [HF]; done) | (rw [HF]; rfl)), HS.out.below⟩
    ·replace h4 := hid h4
     go_upto_region 9 with fail
     refine upb 12 (HS.out.drew.forget 2 0 6 rfl) rfl ?_
     simp only [Blk.dropC, noneM, sA, sB]
     refine tv 0 (.pointer (some ⟨w.heap.size, 0, none⟩)) rfl rfl (by intro x hx; go_simp; all_goals exact rfl) ?_
     simp only [sA, sB]
     refine tv 1 (vU x2.t) rfl rfl (by intro x hx; obtain ⟨f0, f1⟩ := hx.two 0 0 rfl rfl; go_simp; all_goals exact rfl) ?_
     simp only [sA, sB, vU]
     refine tv 2 (.pointer (some ⟨w.heap.size + 1, 0, none⟩)) rfl rfl (by intro x hx; go_simp; all_goals exact rfl) ?_
     simp only [sA, sB]
     refine tv 3 (vU x3.t) rfl rfl (by intro x hx; obtain ⟨f0, f1⟩ := hx.two 1 0 rfl rfl; go_simp; all_goals exact rfl) ?_
     simp only [sA, sB, vU]
     refine tc 4 65 #[vU x2.t, vU x3.t] (vU (tnMul x2.t x3.t)) rfl rfl (by intro x hx; exact tnMul_any x2.t x3.t _ (HT.out.up hx.below)) ?_
     simp only [sA, sB, vU]
     refine tv 5 (.pointer (some ⟨w.heap.size, 2, none⟩)) rfl rfl (by intro x hx; go_simp; all_goals exact rfl) ?_
     simp only [sA, sB]
     refine tv 6 (vU x2.u) rfl rfl (by intro x hx; obtain ⟨f0, f1⟩ := hx.two 0 2 rfl rfl; go_simp; all_goals exact rfl) ?_
     simp only [sA, sB, vU]
     refine tv 7 (.pointer (some ⟨w.heap.size + 1, 2, none⟩)) rfl rfl (by intro x hx; go_simp; all_goals exact rfl) ?_
     simp only [sA, sB]
     refine tv 8 (vU x3.u) rfl rfl (by intro x hx; obtain ⟨f0, f1⟩ := hx.two 1 2 rfl rfl; go_simp; all_goals exact rfl) ?_
     simp only [sA, sB, vU]
     refine tc 9 66 #[vU x2.u, vU x3.u] (vU (span_Mul x2.u x3.u)) rfl rfl (by intro x hx; exact span_Mul_any x2.u x3.u _) ?_
     simp only [sA, sB, vU]
     refine tc 10 64 #[vU (tnMul x2.t x3.t), vU (span_Mul x2.u x3.u)] (vS (Sc.mk (tnMul x2.t x3.t) (span_Mul x2.u x3.u) (P.mk 9223372036854775808#64 9223372036854775807#64))) rfl rfl (by intro x hx; exact scalar_unordered_any (tnMul x2.t x3.t) (span_Mul x2.u x3.u) _) ?_
     simp only [sA, sB, vS]
     refine ts 11 2 0 (cS (Sc.mk (tnMul x2.t x3.t) (span_Mul x2.u x3.u) (P.mk 9223372036854775808#64 9223372036854775807#64))) rfl rfl rfl (by intro x hx; obtain ⟨⟨_, z0, q0⟩, ⟨_, z1, q1⟩, ⟨_, z2, q2⟩, ⟨_, z3, q3⟩, ⟨_, z4, q4⟩, ⟨_, z5, q5⟩⟩ := hx.at6 2 0 rfl; go_simp; all_goals rfl) ?_
     simp only [Blk.putC, setM, cS, sA, sB]
     clear HS
     refine td fun W6 HS => ?_
     go_wp2
     obtain ⟨r0, r1, r2, r3, r4, r5⟩ := HS.out.six 2 0 rfl rfl
     have HF : scalar_result x0 x1 x2 x3 = Sc.mk (tnMul x2.t x3.t) (span_Mul x2.u x3.u) (P.mk 9223372036854775808#64 9223372036854775807#64) := by
       unfold scalar_result
       rw [cond_f h1.out, cond_f h2.out, cond_f h3.out, cond_t h4.out]
     exact bodyPost_ret (v := vS (Sc.mk (tnMul x2.t x3.t) (span_Mul x2.u x3.u) (P.mk 9223372036854775808#64 9223372036854775807#64))) (by simp [results, Tryz.results24, go_sem, r0, r1, r2, r3, r4, r5, vS]) rfl ⟨(by first | (rw [HF]; done) | (rw [HF]; rfl)), HS.out.below⟩
   ·replace h3 := hid h3
    go_upto_region 7 with fail
    refine upb 4 (HS.out.drew.forget 2 0 6 rfl) rfl ?_
    simp only [Blk.dropC, noneM, sA, sB]
    refine tc 0 7 #[.int .u64 (tn (0#64))] (vS (Sc.mk (P.mk 0#64 0#64) (P.mk 0#64 0#64) (P.mk 0#64 0#64))) rfl rfl (by intro x hx; exact scalar_Of_any 0#64 _) ?_
    simp only [sA, sB, vS]
    refine tv 1 (vS x2) rfl rfl (by intro x hx; obtain ⟨f0, f1, f2, f3, f4, f5⟩ := hx.six 0 0 rfl rfl; go_simp; all_goals exact rfl) ?_
    simp only [sA, sB, vS]
    refine tc 2 63 #[vS (Sc.mk (P.mk 0#64 0#64) (P.mk 0#64 0#64) (P.mk 0#64 0#64)), vS x2] (vS (Sc.mk (tnSub (Sc.mk (P.mk 0#64 0#64) (P.mk 0#64 0#64) (P.mk 0#64 0#64)).t x2.t) (span_Sub (Sc.mk (P.mk 0#64 0#64) (P.mk 0#64 0#64) (P.mk 0#64 0#64)).u x2.u) (span_Ssub (Sc.mk (P.mk 0#64 0#64) (P.mk 0#64 0#64) (P.mk 0#64 0#64)).s x2.s))) rfl rfl (by intro x hx; exact scalar_difference_any (Sc.mk (P.mk 0#64 0#64) (P.mk 0#64 0#64) (P.mk 0#64 0#64)) x2 _) ?_
    simp only [sA, sB, vS]
    refine ts 3 2 0 (cS (Sc.mk (tnSub (Sc.mk (P.mk 0#64 0#64) (P.mk 0#64 0#64) (P.mk 0#64 0#64)).t x2.t) (span_Sub (Sc.mk (P.mk 0#64 0#64) (P.mk 0#64 0#64) (P.mk 0#64 0#64)).u x2.u) (span_Ssub (Sc.mk (P.mk 0#64 0#64) (P.mk 0#64 0#64) (P.mk 0#64 0#64)).s x2.s))) rfl rfl rfl (by intro x hx; obtain ⟨⟨_, z0, q0⟩, ⟨_, z1, q1⟩, ⟨_, z2, q2⟩, ⟨_, z3, q3⟩, ⟨_, z4, q4⟩, ⟨_, z5, q5⟩⟩ := hx.at6 2 0 rfl; go_simp; all_goals rfl) ?_
    simp only [Blk.putC, setM, cS, sA, sB]
    clear HS
    refine td fun W5 HS => ?_
    go_wp2
    obtain ⟨r0, r1, r2, r3, r4, r5⟩ := HS.out.six 2 0 rfl rfl
    have HF : scalar_result x0 x1 x2 x3 = Sc.mk (tnSub (Sc.mk (P.mk 0#64 0#64) (P.mk 0#64 0#64) (P.mk 0#64 0#64)).t x2.t) (span_Sub (Sc.mk (P.mk 0#64 0#64) (P.mk 0#64 0#64) (P.mk 0#64 0#64)).u x2.u) (span_Ssub (Sc.mk (P.mk 0#64 0#64) (P.mk 0#64 0#64) (P.mk 0#64 0#64)).s x2.s) := by
      unfold scalar_result
      rw [cond_f h1.out, cond_f h2.out, cond_t h3.out]
    exact bodyPost_ret (v := vS (Sc.mk (tnSub (Sc.mk (P.mk 0#64 0#64) (P.mk 0#64 0#64) (P.mk 0#64 0#64)).t x2.t) (span_Sub (Sc.mk (P.mk 0#64 0#64) (P.mk 0#64 0#64) (P.mk 0#64 0#64)).u x2.u) (span_Ssub (Sc.mk (P.mk 0#64 0#64) (P.mk 0#64 0#64) (P.mk 0#64 0#64)).s x2.s))) (by simp [results, Tryz.results24, go_sem, r0, r1, r2, r3, r4, r5, vS]) rfl ⟨(by first | (rw [HF]; done) | (rw [HF]; rfl)), HS.out.below⟩
  ·replace h2 := hid h2
   go_upto_region 5 with fail
   refine lnb HS.out rfl ?_
   refine lv 0 (vS x2) rfl rfl (by intro x hx; obtain ⟨f0, f1, f2, f3, f4, f5⟩ := hx.six 0 0 rfl rfl; go_simp; all_goals exact rfl) ?_
   simp only [sA, sB, vS]
   refine lv 1 (vS x3) rfl rfl (by intro x hx; obtain ⟨f0, f1, f2, f3, f4, f5⟩ := hx.six 1 0 rfl rfl; go_simp; all_goals exact rfl) ?_
   simp only [sA, sB, vS]
   refine lc 2 63 #[vS x2, vS x3] (vS (Sc.mk (tnSub x2.t x3.t) (span_Sub x2.u x3.u) (span_Ssub x2.s x3.s))) rfl rfl (by intro x hx; exact scalar_difference_any x2 x3 _) ?_
   simp only [sA, sB, vS]
   refine ls 3 2 0 (cS (Sc.mk (tnSub x2.t x3.t) (span_Sub x2.u x3.u) (span_Ssub x2.s x3.s))) rfl rfl rfl (by intro x hx; obtain ⟨⟨_, z0, q0⟩, ⟨_, z1, q1⟩, ⟨_, z2, q2⟩, ⟨_, z3, q3⟩, ⟨_, z4, q4⟩, ⟨_, z5, q5⟩⟩ := hx.at6 2 0 rfl; go_simp; all_goals rfl) ?_
   simp only [Blk.putC, setM, cS, sA, sB]
   clear HS
   refine ld fun W4 HS => ?_
   go_wp2
   obtain ⟨r0, r1, r2, r3, r4, r5⟩ := HS.out.six 2 0 rfl rfl
   have HF : scalar_result x0 x1 x2 x3 = Sc.mk (tnSub x2.t x3.t) (span_Sub x2.u x3.u) (span_Ssub x2.s x3.s) := by
     unfold scalar_result
     rw [cond_f h1.out, cond_t h2.out]
   exact bodyPost_ret (v := vS (Sc.mk (tnSub x2.t x3.t) (span_Sub x2.u x3.u) (span_Ssub x2.s x3.s))) (by simp [results, Tryz.results24, go_sem, r0, r1, r2, r3, r4, r5, vS]) rfl ⟨(by first | (rw [HF]; done) | (rw [HF]; rfl)), HS.out.below⟩
 ·replace h1 := hid h1
  go_upto_region 3 with fail
  refine upb 17 (HS.out.drew.forget 2 0 6 rfl) rfl ?_
  simp only [Blk.dropC, noneM, sA, sB]
  refine tv 0 (.pointer (some ⟨w.heap.size, 0, none⟩)) rfl rfl (by intro x hx; go_simp; all_goals exact rfl) ?_
  simp only [sA, sB]
  refine tv 1 (vU x2.t) rfl rfl (by intro x hx; obtain ⟨f0, f1⟩ := hx.two 0 0 rfl rfl; go_simp; all_goals exact rfl) ?_
  simp only [sA, sB, vU]
  refine tv 2 (.pointer (some ⟨w.heap.size + 1, 0, none⟩)) rfl rfl (by intro x hx; go_simp; all_goals exact rfl) ?_
  simp only [sA, sB]
  refine tv 3 (vU x3.t) rfl rfl (by intro x hx; obtain ⟨f0, f1⟩ := hx.two 1 0 rfl rfl; go_simp; all_goals exact rfl) ?_
  simp only [sA, sB, vU]
  refine tc 4 60 #[vU x2.t, vU x3.t] (vU (tnAdd x2.t x3.t)) rfl rfl (by intro x hx; exact tnAdd_any x2.t x3.t _) ?_
  simp only [sA, sB, vU]
  refine tv 5 (.pointer (some ⟨w.heap.size, 2, none⟩)) rfl rfl (by intro x hx; go_simp; all_goals exact rfl) ?_
  simp only [sA, sB]
  refine tv 6 (vU x2.u) rfl rfl (by intro x hx; obtain ⟨f0, f1⟩ := hx.two 0 2 rfl rfl; go_simp; all_goals exact rfl) ?_
  simp only [sA, sB, vU]
  refine tv 7 (.pointer (some ⟨w.heap.size + 1, 2, none⟩)) rfl rfl (by intro x hx; go_simp; all_goals exact rfl) ?_
  simp only [sA, sB]
  refine tv 8 (vU x3.u) rfl rfl (by intro x hx; obtain ⟨f0, f1⟩ := hx.two 1 2 rfl rfl; go_simp; all_goals exact rfl) ?_
  simp only [sA, sB, vU]
  refine tc 9 61 #[vU x2.u, vU x3.u] (vU (span_Add x2.u x3.u)) rfl rfl (by intro x hx; exact span_Add_any x2.u x3.u _) ?_
  simp only [sA, sB, vU]
  refine tv 10 (.pointer (some ⟨w.heap.size, 4, none⟩)) rfl rfl (by intro x hx; go_simp; all_goals exact rfl) ?_
  simp only [sA, sB]
  refine tv 11 (vI x2.s) rfl rfl (by intro x hx; obtain ⟨f0, f1⟩ := hx.two 0 4 rfl rfl; go_simp; all_goals exact rfl) ?_
  simp only [sA, sB, vI]
  refine tv 12 (.pointer (some ⟨w.heap.size + 1, 4, none⟩)) rfl rfl (by intro x hx; go_simp; all_goals exact rfl) ?_
  simp only [sA, sB]
  refine tv 13 (vI x3.s) rfl rfl (by intro x hx; obtain ⟨f0, f1⟩ := hx.two 1 4 rfl rfl; go_simp; all_goals exact rfl) ?_
  simp only [sA, sB, vI]
  refine tc 14 62 #[vI x2.s, vI x3.s] (vI (span_Sadd x2.s x3.s)) rfl rfl (by intro x hx; exact span_Sadd_any x2.s x3.s _) ?_
  simp only [sA, sB, vI]
  refine tv 15 (vS (Sc.mk (tnAdd x2.t x3.t) (span_Add x2.u x3.u) (span_Sadd x2.s x3.s))) rfl rfl (by intro x hx; go_simp; all_goals exact rfl) ?_
  simp only [sA, sB, vS]
  refine ts 16 2 0 (cS (Sc.mk (tnAdd x2.t x3.t) (span_Add x2.u x3.u) (span_Sadd x2.s x3.s))) rfl rfl rfl (by intro x hx; obtain ⟨⟨_, z0, q0⟩, ⟨_, z1, q1⟩, ⟨_, z2, q2⟩, ⟨_, z3, q3⟩, ⟨_, z4, q4⟩, ⟨_, z5, q5⟩⟩ := hx.at6 2 0 rfl; go_simp; all_goals rfl) ?_
  simp only [Blk.putC, setM, cS, sA, sB]
  clear HS
  refine td fun W3 HS => ?_
  go_wp2
  obtain ⟨r0, r1, r2, r3, r4, r5⟩ := HS.out.six 2 0 rfl rfl
  have HF : scalar_result x0 x1 x2 x3 = Sc.mk (tnAdd x2.t x3.t) (span_Add x2.u x3.u) (span_Sadd x2.s x3.s) := by
    unfold scalar_result
    rw [cond_t h1.out]
  exact bodyPost_ret (v := vS (Sc.mk (tnAdd x2.t x3.t) (span_Add x2.u x3.u) (span_Sadd x2.s x3.s))) (by simp [results, Tryz.results24, go_sem, r0, r1, r2, r3, r4, r5, vS]) rfl ⟨(by first | (rw [HF]; done) | (rw [HF]; rfl)), HS.out.below⟩
end Go.Proofs.YtmcapfbkedfdkaaGreatDoor.Sp
