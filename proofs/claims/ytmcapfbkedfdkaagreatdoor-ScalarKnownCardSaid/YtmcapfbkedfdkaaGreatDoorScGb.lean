/-
  The contracts of the ends of Branch.
-/
import Derived.Deep.DeepCutAuto
import Derived.Laws.StructEq
import Derived.Laws.Tables
import Derived.Test.YtmcapfbkedfdkaaGreatDoorScA
namespace Go.Proofs.YtmcapfbkedfdkaaGreatDoor.Sp
set_option maxRecDepth 100000
set_option maxHeartbeats 4000000
open Go.RowKit Go.Proofs.YtmcapfbkedfdkaaGreatDoor.Num Go.Proofs.YtmcapfbkedfdkaaGreatDoor.Up
theorem eqA_u (a b c d : BitVec 64) (w : World) : (Op.equalIn 10000 115 (.agg #[.int .u64 (tn a), .int .u64 (tn b)]) (.agg #[.int .u64 (tn c), .int .u64 (tn d)])).run Tryz.prog w = .ok (eqP ⟨a, b⟩ ⟨c, d⟩) w := by
 have u3 := Tryz.underlying22
 have a3 := Tryz.isAgg22
 have z3 := Tryz.sizeOf22
 rw [show (10000 : Nat) = 9999 + 1 from rfl, Op.equalIn]
 simp only [Sem.run_bind, run_underlying Tryz.underlying115, Result.andThen_ok]
 simp only [Std.Legacy.Range.forIn_eq_forIn_range', Std.Legacy.Range.size, Nat.sub_zero, Nat.add_sub_cancel, Nat.div_one, List.range'_succ, List.range'_zero, List.forIn_cons, List.forIn_nil]
 go_simp
 unfold eqP
 simp only
 rw [← eqUT, ← eqUT]
 by_cases h1 : tn a = tn c <;> by_cases h2 : tn b = tn d <;> simp [h1, h2]
theorem eqA_i (a b c d : BitVec 64) (w : World) : (Op.equalIn 10000 120 (.agg #[.int .i64 (ti a), .int .i64 (ti b)]) (.agg #[.int .i64 (ti c), .int .i64 (ti d)])).run Tryz.prog w = .ok (eqS ⟨a, b⟩ ⟨c, d⟩) w := by
 have u3 := Tryz.underlying2
 have a3 := Tryz.isAgg2
 have z3 := Tryz.sizeOf2
 rw [show (10000 : Nat) = 9999 + 1 from rfl, Op.equalIn]
 simp only [Sem.run_bind, run_underlying Tryz.underlying120, Result.andThen_ok]
 simp only [Std.Legacy.Range.forIn_eq_forIn_range', Std.Legacy.Range.size, Nat.sub_zero, Nat.add_sub_cancel, Nat.div_one, List.range'_succ, List.range'_zero, List.forIn_cons, List.forIn_nil]
 go_simp
 unfold eqS
 simp only
 rw [← eqIT, ← eqIT]
 by_cases h1 : ti a = ti c <;> by_cases h2 : ti b = ti d <;> simp [h1, h2]
def scalar_apart_uint64 (x0 : P) (x1 : P)  : P × Bool :=
 bif (x1.lo != x1.hi) then ((x0, true)) else (bif eqP x0 x1 then ((P.mk 0#64 0#64, false)) else (bif (x0.lo == x1.lo) then (bif (x0.hi == x1.lo) then ((P.mk (x0.lo + 1#64) (x0.hi - 1#64), true)) else ((P.mk (x0.lo + 1#64) x0.hi, true))) else (bif (x0.hi == x1.lo) then ((P.mk x0.lo (x0.hi - 1#64), true)) else ((x0, true)))))
theorem scalar_apart_uint64_any (x0 : P) (x1 : P)   (w : World) :
   Calls Tryz.prog 124 #[vU x0, vU x1] w fun e w' => e = .returned (.tuple #[vU ((scalar_apart_uint64 x0 x1).1), .bool ((scalar_apart_uint64 x0 x1).2)]) ∧ Below w.heap.size w w' := by
 simp only [vU]
 go_enter Tryz.func124, Tryz.ntmps124
 have HS : Hid (St w [⟨w.heap.size, [some (.int .u64 (tn (x0.lo))), some (.int .u64 (tn (x0.hi)))], 115⟩, ⟨w.heap.size + 1, [some (.int .u64 (tn (x1.lo))), some (.int .u64 (tn (x1.hi)))], 115⟩, ⟨w.heap.size + 2, [some (.int .u64 0), some (.int .u64 0)], 115⟩] _) := hid ((((st_nil w).alloc (k := w.heap.size) rfl [.int .u64 (tn (x0.lo)), .int .u64 (tn (x0.hi))] 115).alloc (k := w.heap.size + 1) (by simp) [.int .u64 (tn (x1.lo)), .int .u64 (tn (x1.hi))] 115).alloc (k := w.heap.size + 2) (by simp) [.int .u64 0, .int .u64 0] 115)
 go_upto_region 1 with fail
 refine lnb HS.out rfl ?_
 refine lv 0 (.pointer (some ⟨w.heap.size + 1, 0, none⟩)) rfl rfl (by intro x hx; go_simp; all_goals exact rfl) ?_
 simp only [sA, sB]
 refine lv 1 (.int .u64 (tn (x1.lo))) rfl rfl (by intro x hx; have f0 := hx.load 1 0 rfl rfl; go_simp; all_goals exact rfl) ?_
 simp only [sA, sB]
 refine lv 2 (.pointer (some ⟨w.heap.size + 1, 1, none⟩)) rfl rfl (by intro x hx; go_simp; all_goals exact rfl) ?_
 simp only [sA, sB]
 refine lv 3 (.int .u64 (tn (x1.hi))) rfl rfl (by intro x hx; have f0 := hx.load 1 1 rfl rfl; go_simp; all_goals exact rfl) ?_
 simp only [sA, sB]
 refine lv 4 (.bool ((x1.lo != x1.hi))) rfl rfl (by intro x hx; go_simp; (first | done | exact neUT x1.lo x1.hi | exact congrArg _ (neUT x1.lo x1.hi) | (rw [neUT x1.lo x1.hi]; done) | (rw [neUT x1.lo x1.hi]; rfl))) ?_
 simp only [sA, sB]
 clear HS
 refine ld fun W1 HS => ?_
 cases h1 : ((x1.lo != x1.hi))
 ·replace h1 := hid h1
  go_upto_region 3 with fail
  refine lnb HS.out rfl ?_
  refine lv 0 (vU x0) rfl rfl (by intro x hx; obtain ⟨f0, f1⟩ := hx.two 0 0 rfl rfl; go_simp; all_goals exact rfl) ?_
  simp only [sA, sB, vU]
  refine lv 1 (vU x1) rfl rfl (by intro x hx; obtain ⟨f0, f1⟩ := hx.two 1 0 rfl rfl; go_simp; all_goals exact rfl) ?_
  simp only [sA, sB, vU]
  refine lv 2 (.bool (eqP x0 x1)) rfl rfl (by intro x hx; go_simp; (first | done | (rw [eqA_u]; rfl))) ?_
  simp only [sA, sB]
  clear HS
  refine ld fun W2 HS => ?_
  cases h2 : (eqP x0 x1)
  ·replace h2 := hid h2
   go_upto_region 5 with fail
   refine lnb HS.out rfl ?_
   refine lv 0 (.pointer (some ⟨w.heap.size, 0, none⟩)) rfl rfl (by intro x hx; go_simp; all_goals exact rfl) ?_
   simp only [sA, sB]
   refine lv 1 (.int .u64 (tn (x0.lo))) rfl rfl (by intro x hx; have f0 := hx.load 0 0 rfl rfl; go_simp; all_goals exact rfl) ?_
   simp only [sA, sB]
   refine lv 2 (.pointer (some ⟨w.heap.size + 1, 0, none⟩)) rfl rfl (by intro x hx; go_simp; all_goals exact rfl) ?_
   simp only [sA, sB]
   refine lv 3 (.int .u64 (tn (x1.lo))) rfl rfl (by intro x hx; have f0 := hx.load 1 0 rfl rfl; go_simp; all_goals exact rfl) ?_
   simp only [sA, sB]
   refine lv 4 (.bool ((x0.lo == x1.lo))) rfl rfl (by intro x hx; go_simp; (first | done | exact eqUT x0.lo x1.lo | exact congrArg _ (eqUT x0.lo x1.lo) | (rw [eqUT x0.lo x1.lo]; done) | (rw [eqUT x0.lo x1.lo]; rfl))) ?_
   simp only [sA, sB]
   clear HS
   refine ld fun W3 HS => ?_
   cases h3 : ((x0.lo == x1.lo))
   ·replace h3 := hid h3
    go_upto_region 7 with fail
    refine lnb HS.out rfl ?_
    refine lv 0 (.pointer (some ⟨w.heap.size, 1, none⟩)) rfl rfl (by intro x hx; go_simp; all_goals exact rfl) ?_
    simp only [sA, sB]
    refine lv 1 (.int .u64 (tn (x0.hi))) rfl rfl (by intro x hx; have f0 := hx.load 0 1 rfl rfl; go_simp; all_goals exact rfl) ?_
    simp only [sA, sB]
    refine lv 2 (.pointer (some ⟨w.heap.size + 1, 0, none⟩)) rfl rfl (by intro x hx; go_simp; all_goals exact rfl) ?_
    simp only [sA, sB]
    refine lv 3 (.int .u64 (tn (x1.lo))) rfl rfl (by intro x hx; have f0 := hx.load 1 0 rfl rfl; go_simp; all_goals exact rfl) ?_
    simp only [sA, sB]
    refine lv 4 (.bool ((x0.hi == x1.lo))) rfl rfl (by intro x hx; go_simp; (first | done | exact eqUT x0.hi x1.lo | exact congrArg _ (eqUT x0.hi x1.lo) | (rw [eqUT x0.hi x1.lo]; done) | (rw [eqUT x0.hi x1.lo]; rfl))) ?_
    simp only [sA, sB]
    clear HS
    refine ld fun W4 HS => ?_
    cases h4 : ((x0.hi == x1.lo))
    ·replace h4 := hid h4
     go_upto_region 9 with fail
     refine lnb HS.out rfl ?_
     refine lv 0 (vU x0) rfl rfl (by intro x hx; obtain ⟨f0, f1⟩ := hx.two 0 0 rfl rfl; go_simp; all_goals exact rfl) ?_
     simp only [sA, sB, vU]
     refine ls 1 2 0 (cU x0) rfl rfl rfl (by intro x hx; obtain ⟨⟨_, z0, q0⟩, ⟨_, z1, q1⟩⟩ := hx.at2 2 0 rfl; go_simp; all_goals rfl) ?_
     simp only [Blk.putC, setM, cU, sA, sB]
     refine lv 2 (.bool true) rfl rfl (by intro x hx; go_simp; all_goals exact rfl) ?_
     simp only [sA, sB]
     clear HS
     refine ld fun W5 HS => ?_
     go_wp2
     obtain ⟨r0, r1⟩ := HS.out.two 2 0 rfl rfl
     have HF : scalar_apart_uint64 x0 x1 = (x0, true) := by
       unfold scalar_apart_uint64
       rw [cond_f h1.out, cond_f h2.out, cond_f h3.out, cond_f h4.out]
     exact bodyPost_ret (v := .tuple #[vU x0, .bool true]) (by simp [results, Tryz.results124, go_sem, r0, r1, vU]) rfl ⟨(by first | (rw [HF]; done) | (rw [HF]; rfl)), HS.out.below⟩
    ·replace h4 := hid h4
     go_upto_region 8 with fail
     refine lnb HS.out rfl ?_
     refine lv 0 (.pointer (some ⟨w.heap.size, 1, none⟩)) rfl rfl (by intro x hx; go_simp; all_goals exact rfl) ?_
     simp only [sA, sB]
     refine lv 1 (.int .u64 (tn (x0.hi))) rfl rfl (by intro x hx; have f0 := hx.load 0 1 rfl rfl; go_simp; all_goals exact rfl) ?_
     simp only [sA, sB]
     refine lv 2 (.int .u64 (tn (x0.hi - 1#64))) rfl rfl (by intro x hx; go_simp; (first | done | exact subUT x0.hi 1#64 | exact congrArg _ (subUT x0.hi 1#64) | (rw [subUT x0.hi 1#64]; done) | (rw [subUT x0.hi 1#64]; rfl))) ?_
     simp only [sA, sB]
     refine lv 3 (.pointer (some ⟨w.heap.size, 1, none⟩)) rfl rfl (by intro x hx; go_simp; all_goals exact rfl) ?_
     simp only [sA, sB]
     refine ls 4 0 1 [.int .u64 (tn (x0.hi - 1#64))] rfl rfl rfl (by intro x hx; obtain ⟨_, z0, q0⟩ := hx.at1 0 1 rfl; go_simp; all_goals rfl) ?_
     simp only [Blk.putC, setM, sA, sB]
     clear HS
     refine ld fun W5 HS => ?_
     go_upto_region 9 with fail
     refine lnb HS.out rfl ?_
     refine lv 0 (vU (P.mk x0.lo (x0.hi - 1#64))) rfl rfl (by intro x hx; obtain ⟨f0, f1⟩ := hx.two 0 0 rfl rfl; go_simp; all_goals exact rfl) ?_
     simp only [sA, sB, vU]
     refine ls 1 2 0 (cU (P.mk x0.lo (x0.hi - 1#64))) rfl rfl rfl (by intro x hx; obtain ⟨⟨_, z0, q0⟩, ⟨_, z1, q1⟩⟩ := hx.at2 2 0 rfl; go_simp; all_goals rfl) ?_
     simp only [Blk.putC, setM, cU, sA, sB]
     refine lv 2 (.bool true) rfl rfl (by intro x hx; go_simp; all_goals exact rfl) ?_
     simp only [sA, sB]
     clear HS
     refine ld fun W6 HS => ?_
     go_wp2
     obtain ⟨r0, r1⟩ := HS.out.two 2 0 rfl rfl
     have HF : scalar_apart_uint64 x0 x1 = (P.mk x0.lo (x0.hi - 1#64), true) := by
       unfold scalar_apart_uint64
       rw [cond_f h1.out, cond_f h2.out, cond_f h3.out, cond_t h4.out]
     exact bodyPost_ret (v := .tuple #[vU (P.mk x0.lo (x0.hi - 1#64)), .bool true]) (by simp [results, Tryz.results124, go_sem, r0, r1, vU]) rfl ⟨(by first | (rw [HF]; done) | (rw [HF]; rfl)), HS.out.below⟩
   ·replace h3 := hid h3
    go_upto_region 6 with fail
    refine lnb HS.out rfl ?_
    refine lv 0 (.pointer (some ⟨w.heap.size, 0, none⟩)) rfl rfl (by intro x hx; go_simp; all_goals exact rfl) ?_
    simp only [sA, sB]
    refine lv 1 (.int .u64 (tn (x0.lo))) rfl rfl (by intro x hx; have f0 := hx.load 0 0 rfl rfl; go_simp; all_goals exact rfl) ?_
    simp only [sA, sB]
    refine lv 2 (.int .u64 (tn (x0.lo + 1#64))) rfl rfl (by intro x hx; go_simp; (first | done | exact addUT x0.lo 1#64 | exact congrArg _ (addUT x0.lo 1#64) | (rw [addUT x0.lo 1#64]; done) | (rw [addUT x0.lo 1#64]; rfl))) ?_
    simp only [sA, sB]
    refine lv 3 (.pointer (some ⟨w.heap.size, 0, none⟩)) rfl rfl (by intro x hx; go_simp; all_goals exact rfl) ?_
    simp only [sA, sB]
    refine ls 4 0 0 [.int .u64 (tn (x0.lo + 1#64))] rfl rfl rfl (by intro x hx; obtain ⟨_, z0, q0⟩ := hx.at1 0 0 rfl; go_simp; all_goals rfl) ?_
    simp only [Blk.putC, setM, sB]
    clear HS
    refine ld fun W4 HS => ?_
    go_upto_region 7 with fail
    refine lnb HS.out rfl ?_
    refine lv 0 (.pointer (some ⟨w.heap.size, 1, none⟩)) rfl rfl (by intro x hx; go_simp; all_goals exact rfl) ?_
    simp only [sA, sB]
    refine lv 1 (.int .u64 (tn (x0.hi))) rfl rfl (by intro x hx; have f0 := hx.load 0 1 rfl rfl; go_simp; all_goals exact rfl) ?_
    simp only [sA, sB]
    refine lv 2 (.pointer (some ⟨w.heap.size + 1, 0, none⟩)) rfl rfl (by intro x hx; go_simp; all_goals exact rfl) ?_
    simp only [sA, sB]
    refine lv 3 (.int .u64 (tn (x1.lo))) rfl rfl (by intro x hx; have f0 := hx.load 1 0 rfl rfl; go_simp; all_goals exact rfl) ?_
    simp only [sA, sB]
    refine lv 4 (.bool ((x0.hi == x1.lo))) rfl rfl (by intro x hx; go_simp; (first | done | exact eqUT x0.hi x1.lo | exact congrArg _ (eqUT x0.hi x1.lo) | (rw [eqUT x0.hi x1.lo]; done) | (rw [eqUT x0.hi x1.lo]; rfl))) ?_
    simp only [sA, sB]
    clear HS
    refine ld fun W5 HS => ?_
    cases h4 : ((x0.hi == x1.lo))
    ·replace h4 := hid h4
     go_upto_region 9 with fail
     refine lnb HS.out rfl ?_
     refine lv 0 (vU (P.mk (x0.lo + 1#64) x0.hi)) rfl rfl (by intro x hx; obtain ⟨f0, f1⟩ := hx.two 0 0 rfl rfl; go_simp; all_goals exact rfl) ?_
     simp only [sA, sB, vU]
     refine ls 1 2 0 (cU (P.mk (x0.lo + 1#64) x0.hi)) rfl rfl rfl (by intro x hx; obtain ⟨⟨_, z0, q0⟩, ⟨_, z1, q1⟩⟩ := hx.at2 2 0 rfl; go_simp; all_goals rfl) ?_
     simp only [Blk.putC, setM, cU, sA, sB]
     refine lv 2 (.bool true) rfl rfl (by intro x hx; go_simp; all_goals exact rfl) ?_
     simp only [sA, sB]
     clear HS
     refine ld fun W6 HS => ?_
     go_wp2
     obtain ⟨r0, r1⟩ := HS.out.two 2 0 rfl rfl
     have HF : scalar_apart_uint64 x0 x1 = (P.mk (x0.lo + 1#64) x0.hi, true) := by
       unfold scalar_apart_uint64
       rw [cond_f h1.out, cond_f h2.out, cond_t h3.out, cond_f h4.out]
     exact bodyPost_ret (v := .tuple #[vU (P.mk (x0.lo + 1#64) x0.hi), .bool true]) (by simp [results, Tryz.results124, go_sem, r0, r1, vU]) rfl ⟨(by first | (rw [HF]; done) | (rw [HF]; rfl)), HS.out.below⟩
    ·replace h4 := hid h4
     go_upto_region 8 with fail
     refine lnb HS.out rfl ?_
     refine lv 0 (.pointer (some ⟨w.heap.size, 1, none⟩)) rfl rfl (by intro x hx; go_simp; all_goals exact rfl) ?_
     simp only [sA, sB]
     refine lv 1 (.int .u64 (tn (x0.hi))) rfl rfl (by intro x hx; have f0 := hx.load 0 1 rfl rfl; go_simp; all_goals exact rfl) ?_
     simp only [sA, sB]
     refine lv 2 (.int .u64 (tn (x0.hi - 1#64))) rfl rfl (by intro x hx; go_simp; (first | done | exact subUT x0.hi 1#64 | exact congrArg _ (subUT x0.hi 1#64) | (rw [subUT x0.hi 1#64]; done) | (rw [subUT x0.hi 1#64]; rfl))) ?_
     simp only [sA, sB]
     refine lv 3 (.pointer (some ⟨w.heap.size, 1, none⟩)) rfl rfl (by intro x hx; go_simp; all_goals exact rfl) ?_
     simp only [sA, sB]
     refine ls 4 0 1 [.int .u64 (tn (x0.hi - 1#64))] rfl rfl rfl (by intro x hx; obtain ⟨_, z0, q0⟩ := hx.at1 0 1 rfl; go_simp; all_goals rfl) ?_
     simp only [Blk.putC, setM, sA, sB]
     clear HS
     refine ld fun W6 HS => ?_
     go_upto_region 9 with fail
     refine lnb HS.out rfl ?_
     refine lv 0 (vU (P.mk (x0.lo + 1#64) (x0.hi - 1#64))) rfl rfl (by intro x hx; obtain ⟨f0, f1⟩ := hx.two 0 0 rfl rfl; go_simp; all_goals exact rfl) ?_
     simp only [sA, sB, vU]
     refine ls 1 2 0 (cU (P.mk (x0.lo + 1#64) (x0.hi - 1#64))) rfl rfl rfl (by intro x hx; obtain ⟨⟨_, z0, q0⟩, ⟨_, z1, q1⟩⟩ := hx.at2 2 0 rfl; go_simp; all_goals rfl) ?_
     simp only [Blk.putC, setM, cU, sA, sB]
     refine lv 2 (.bool true) rfl rfl (by intro x hx; go_simp; all_goals exact rfl) ?_
     simp only [sA, sB]
     clear HS
     refine ld fun W7 HS => ?_
     go_wp2
     obtain ⟨r0, r1⟩ := HS.out.two 2 0 rfl rfl
     have HF : scalar_apart_uint64 x0 x1 = (P.mk (x0.lo + 1#64) (x0.hi - 1#64), true) := by
       unfold scalar_apart_uint64
       rw [cond_f h1.out, cond_f h2.out, cond_t h3.out, cond_t h4.out]
     exact bodyPost_ret (v := .tuple #[vU (P.mk (x0.lo + 1#64) (x0.hi - 1#64)), .bool true]) (by simp [results, Tryz.results124, go_sem, r0, r1, vU]) rfl ⟨(by first | (rw [HF]; done) | (rw [HF]; rfl)), HS.out.below⟩
  ·replace h2 := hid h2
   go_upto_region 4 with fail
   refine lnb HS.out rfl ?_
   refine lv 0 (.agg #[.int .u64 0, .int .u64 0]) rfl rfl (by intro x hx; go_simp; all_goals exact rfl) ?_
   simp only [sA, sB]
   refine ls 1 2 0 [.int .u64 0, .int .u64 0] rfl rfl rfl (by intro x hx; obtain ⟨⟨_, z0, q0⟩, ⟨_, z1, q1⟩⟩ := hx.at2 2 0 rfl; go_simp; all_goals rfl) ?_
   simp only [Blk.putC, setM, sA, sB]
   refine lv 2 (.bool false) rfl rfl (by intro x hx; go_simp; all_goals exact rfl) ?_
   simp only [sA, sB]
   clear HS
   refine ld fun W3 HS => ?_
   go_wp2
   obtain ⟨r0, r1⟩ := HS.out.two 2 0 rfl rfl
   have HF : scalar_apart_uint64 x0 x1 = (P.mk 0#64 0#64, false) := by
     unfold scalar_apart_uint64
     rw [cond_f h1.out, cond_t h2.out]
   exact bodyPost_ret (v := .tuple #[.agg #[.int .u64 0, .int .u64 0], .bool false]) (by simp [results, Tryz.results124, go_sem, r0, r1]) rfl ⟨(by first | (rw [HF]; done) | (rw [HF]; rfl)), HS.out.below⟩
 ·replace h1 := hid h1
  go_upto_region 2 with fail
  refine lnb HS.out rfl ?_
  refine lv 0 (vU x0) rfl rfl (by intro x hx; obtain ⟨f0, f1⟩ := hx.two 0 0 rfl rfl; go_simp; all_goals exact rfl) ?_
  simp only [sA, sB, vU]
  refine ls 1 2 0 (cU x0) rfl rfl rfl (by intro x hx; obtain ⟨⟨_, z0, q0⟩, ⟨_, z1, q1⟩⟩ := hx.at2 2 0 rfl; go_simp; all_goals rfl) ?_
  simp only [Blk.putC, setM, cU, sA, sB]
  refine lv 2 (.bool true) rfl rfl (by intro x hx; go_simp; all_goals exact rfl) ?_
  simp only [sA, sB]
  clear HS
  refine ld fun W2 HS => ?_
  go_wp2
  obtain ⟨r0, r1⟩ := HS.out.two 2 0 rfl rfl
  have HF : scalar_apart_uint64 x0 x1 = (x0, true) := by
    unfold scalar_apart_uint64
    rw [cond_t h1.out]
  exact bodyPost_ret (v := .tuple #[vU x0, .bool true]) (by simp [results, Tryz.results124, go_sem, r0, r1, vU]) rfl ⟨(by first | (rw [HF]; done) | (rw [HF]; rfl)), HS.out.below⟩
def scalar_bothApart_uint64 (x0 : P) (x1 : P)  : P × P × Bool :=
 bif (!((scalar_apart_uint64 x0 x1).2)) then ((P.mk 0#64 0#64, P.mk 0#64 0#64, false)) else (((scalar_apart_uint64 x0 x1).1, (scalar_apart_uint64 x1 ((scalar_apart_uint64 x0 x1).1)).1, (scalar_apart_uint64 x1 ((scalar_apart_uint64 x0 x1).1)).2))
theorem scalar_bothApart_uint64_any (x0 : P) (x1 : P)   (w : World) :
   Calls Tryz.prog 90 #[vU x0, vU x1] w fun e w' => e = .returned (.tuple #[vU ((scalar_bothApart_uint64 x0 x1).1), vU ((scalar_bothApart_uint64 x0 x1).2.1), .bool ((scalar_bothApart_uint64 x0 x1).2.2)]) ∧ Below w.heap.size w w' := by
 simp only [vU]
 go_enter Tryz.func90, Tryz.ntmps90
 have HS : Hid (St w [⟨w.heap.size, [some (.int .u64 (tn (x0.lo))), some (.int .u64 (tn (x0.hi)))], 115⟩, ⟨w.heap.size + 1, [some (.int .u64 (tn (x1.lo))), some (.int .u64 (tn (x1.hi)))], 115⟩, ⟨w.heap.size + 2, [some (.int .u64 0), some (.int .u64 0)], 115⟩, ⟨w.heap.size + 3, [some (.int .u64 0), some (.int .u64 0)], 115⟩] _) := hid (((((st_nil w).alloc (k := w.heap.size) rfl [.int .u64 (tn (x0.lo)), .int .u64 (tn (x0.hi))] 115).alloc (k := w.heap.size + 1) (by simp) [.int .u64 (tn (x1.lo)), .int .u64 (tn (x1.hi))] 115).alloc (k := w.heap.size + 2) (by simp) [.int .u64 0, .int .u64 0] 115).alloc (k := w.heap.size + 3) (by simp) [.int .u64 0, .int .u64 0] 115)
 go_upto_region 1 with fail
 refine lnb HS.out rfl ?_
 refine lv 0 (vU x0) rfl rfl (by intro x hx; obtain ⟨f0, f1⟩ := hx.two 0 0 rfl rfl; go_simp; all_goals exact rfl) ?_
 simp only [sA, sB, vU]
 refine lv 1 (vU x1) rfl rfl (by intro x hx; obtain ⟨f0, f1⟩ := hx.two 1 0 rfl rfl; go_simp; all_goals exact rfl) ?_
 simp only [sA, sB, vU]
 refine lc 2 124 #[vU x0, vU x1] (.tuple #[vU ((scalar_apart_uint64 x0 x1).1), .bool ((scalar_apart_uint64 x0 x1).2)]) rfl rfl (by intro x hx; exact scalar_apart_uint64_any x0 x1 _) ?_
 simp only [sA, sB, vU]
 refine lm 3 11 rfl rfl rfl rfl ?_
 simp only [sA, sB]
 refine lv 4 (vU ((scalar_apart_uint64 x0 x1).1)) rfl rfl (by intro x hx; go_simp; all_goals exact rfl) ?_
 simp only [sA, sB, vU]
 refine lv 5 (.bool ((scalar_apart_uint64 x0 x1).2)) rfl rfl (by intro x hx; go_simp; all_goals exact rfl) ?_
 simp only [sA, sB]
 refine ls 6 0 0 (cU ((scalar_apart_uint64 x0 x1).1)) rfl rfl rfl (by intro x hx; obtain ⟨⟨_, z0, q0⟩, ⟨_, z1, q1⟩⟩ := hx.at2 0 0 rfl; go_simp; all_goals rfl) ?_
 simp only [Blk.putC, setM, cU, sA, sB]
 refine la 7 13 rfl rfl rfl rfl ?_
 simp only [sA, sB]
 clear HS
 refine ld fun W1 HS => ?_
 go_upto_region 2 with fail
 refine lnb HS.out rfl ?_
 refine lm 0 7 rfl rfl rfl rfl ?_
 simp only [sA, sB]
 refine lv 1 (.bool ((!((scalar_apart_uint64 x0 x1).2)))) rfl rfl (by intro x hx; go_simp; all_goals exact rfl) ?_
 simp only [sA, sB]
 clear HS
 refine ld fun W2 HS => ?_
 cases h1 : ((!((scalar_apart_uint64 x0 x1).2)))
 ·replace h1 := hid h1
  go_upto_region 4 with fail
  refine lnb HS.out rfl ?_
  refine lv 0 (vU x1) rfl rfl (by intro x hx; obtain ⟨f0, f1⟩ := hx.two 1 0 rfl rfl; go_simp; all_goals exact rfl) ?_
  simp only [sA, sB, vU]
  refine lv 1 (vU ((scalar_apart_uint64 x0 x1).1)) rfl rfl (by intro x hx; obtain ⟨f0, f1⟩ := hx.two 0 0 rfl rfl; go_simp; all_goals exact rfl) ?_
  simp only [sA, sB, vU]
  refine lc 2 124 #[vU x1, vU ((scalar_apart_uint64 x0 x1).1)] (.tuple #[vU ((scalar_apart_uint64 x1 ((scalar_apart_uint64 x0 x1).1)).1), .bool ((scalar_apart_uint64 x1 ((scalar_apart_uint64 x0 x1).1)).2)]) rfl rfl (by intro x hx; exact scalar_apart_uint64_any x1 ((scalar_apart_uint64 x0 x1).1) _) ?_
  simp only [sA, sB, vU]
  refine lm 3 21 rfl rfl rfl rfl ?_
  simp only [sA, sB]
  refine lv 4 (vU ((scalar_apart_uint64 x1 ((scalar_apart_uint64 x0 x1).1)).1)) rfl rfl (by intro x hx; go_simp; all_goals exact rfl) ?_
  simp only [sA, sB, vU]
  refine lv 5 (.bool ((scalar_apart_uint64 x1 ((scalar_apart_uint64 x0 x1).1)).2)) rfl rfl (by intro x hx; go_simp; all_goals exact rfl) ?_
  simp only [sA, sB]
  refine ls 6 1 0 (cU ((scalar_apart_uint64 x1 ((scalar_apart_uint64 x0 x1).1)).1)) rfl rfl rfl (by intro x hx; obtain ⟨⟨_, z0, q0⟩, ⟨_, z1, q1⟩⟩ := hx.at2 1 0 rfl; go_simp; all_goals rfl) ?_
  simp only [Blk.putC, setM, cU, sA, sB]
  refine la 7 23 rfl rfl rfl rfl ?_
  simp only [sA, sB]
  clear HS
  refine ld fun W3 HS => ?_
  go_upto_region 5 with fail
  refine upb 6 (((HS.out.drew.forget 2 0 2 rfl).forget 3 0 2 rfl)) rfl ?_
  simp only [Blk.dropC, noneM, sA, sB]
  refine tv 0 (vU ((scalar_apart_uint64 x0 x1).1)) rfl rfl (by intro x hx; obtain ⟨f0, f1⟩ := hx.two 0 0 rfl rfl; go_simp; all_goals exact rfl) ?_
  simp only [sA, sB, vU]
  refine tv 1 (vU ((scalar_apart_uint64 x1 ((scalar_apart_uint64 x0 x1).1)).1)) rfl rfl (by intro x hx; obtain ⟨f0, f1⟩ := hx.two 1 0 rfl rfl; go_simp; all_goals exact rfl) ?_
  simp only [sA, sB, vU]
  refine tm 2 7 rfl rfl rfl rfl ?_
  simp only [sA, sB]
  refine ts 3 2 0 (cU ((scalar_apart_uint64 x0 x1).1)) rfl rfl rfl (by intro x hx; obtain ⟨⟨_, z0, q0⟩, ⟨_, z1, q1⟩⟩ := hx.at2 2 0 rfl; go_simp; all_goals rfl) ?_
  simp only [Blk.putC, setM, cU, sA, sB]
  refine ts 4 3 0 (cU ((scalar_apart_uint64 x1 ((scalar_apart_uint64 x0 x1).1)).1)) rfl rfl rfl (by intro x hx; obtain ⟨⟨_, z0, q0⟩, ⟨_, z1, q1⟩⟩ := hx.at2 3 0 rfl; go_simp; all_goals rfl) ?_
  simp only [Blk.putC, setM, cU, sA, sB]
  refine ta 5 26 rfl rfl rfl rfl ?_
  simp only [sA, sB]
  clear HS
  refine td fun W4 HS => ?_
  go_wp2
  obtain ⟨r0, r1⟩ := HS.out.two 2 0 rfl rfl
  obtain ⟨r2, r3⟩ := HS.out.two 3 0 rfl rfl
  have HF : scalar_bothApart_uint64 x0 x1 = ((scalar_apart_uint64 x0 x1).1, (scalar_apart_uint64 x1 ((scalar_apart_uint64 x0 x1).1)).1, (scalar_apart_uint64 x1 ((scalar_apart_uint64 x0 x1).1)).2) := by
    unfold scalar_bothApart_uint64
    rw [cond_f h1.out]
  exact bodyPost_ret (v := .tuple #[vU ((scalar_apart_uint64 x0 x1).1), vU ((scalar_apart_uint64 x1 ((scalar_apart_uint64 x0 x1).1)).1), .bool ((scalar_apart_uint64 x1 ((scalar_apart_uint64 x0 x1).1)).2)]) (by simp [results, Tryz.results90, go_sem, r0, r1, r2, r3, vU]) rfl ⟨(by first | (rw [HF]; done) | (rw [HF]; rfl)), HS.out.below⟩
 ·replace h1 := hid h1
  go_upto_region 3 with fail
  refine lnb HS.out rfl ?_
  refine lv 0 (.agg #[.int .u64 0, .int .u64 0]) rfl rfl (by intro x hx; go_simp; all_goals exact rfl) ?_
  simp only [sA, sB]
  refine lv 1 (.agg #[.int .u64 0, .int .u64 0]) rfl rfl (by intro x hx; go_simp; all_goals exact rfl) ?_
  simp only [sA, sB]
  refine ls 2 2 0 [.int .u64 0, .int .u64 0] rfl rfl rfl (by intro x hx; obtain ⟨⟨_, z0, q0⟩, ⟨_, z1, q1⟩⟩ := hx.at2 2 0 rfl; go_simp; all_goals rfl) ?_
  simp only [Blk.putC, setM, sA, sB]
  refine ls 3 3 0 [.int .u64 0, .int .u64 0] rfl rfl rfl (by intro x hx; obtain ⟨⟨_, z0, q0⟩, ⟨_, z1, q1⟩⟩ := hx.at2 3 0 rfl; go_simp; all_goals rfl) ?_
  simp only [Blk.putC, setM, sA, sB]
  refine lv 4 (.bool false) rfl rfl (by intro x hx; go_simp; all_goals exact rfl) ?_
  simp only [sA, sB]
  clear HS
  refine ld fun W3 HS => ?_
  go_wp2
  obtain ⟨r0, r1⟩ := HS.out.two 2 0 rfl rfl
  obtain ⟨r2, r3⟩ := HS.out.two 3 0 rfl rfl
  have HF : scalar_bothApart_uint64 x0 x1 = (P.mk 0#64 0#64, P.mk 0#64 0#64, false) := by
    unfold scalar_bothApart_uint64
    rw [cond_t h1.out]
  exact bodyPost_ret (v := .tuple #[.agg #[.int .u64 0, .int .u64 0], .agg #[.int .u64 0, .int .u64 0], .bool false]) (by simp [results, Tryz.results90, go_sem, r0, r1, r2, r3]) rfl ⟨(by first | (rw [HF]; done) | (rw [HF]; rfl)), HS.out.below⟩
def scalar_ordered_uint64 (x0 : P) (x1 : P) (x2 : BitVec 64)  : P × P × Bool :=
 bif gtU x0.lo x1.hi then ((P.mk 0#64 0#64, P.mk 0#64 0#64, false)) else (bif (x0.lo == x1.hi) then (bif gtU x2 0#64 then ((P.mk 0#64 0#64, P.mk 0#64 0#64, false)) else ((P.mk x0.lo (minU x0.hi (x1.hi - x2)), P.mk (maxU x1.lo (x0.lo + x2)) x1.hi, true))) else ((P.mk x0.lo (minU x0.hi (x1.hi - x2)), P.mk (maxU x1.lo (x0.lo + x2)) x1.hi, true)))
theorem scalar_ordered_uint64_any (x0 : P) (x1 : P) (x2 : BitVec 64)   (w : World) :
   Calls Tryz.prog 126 #[vU x0, vU x1, .int .u64 (tn (x2))] w fun e w' => e = .returned (.tuple #[vU ((scalar_ordered_uint64 x0 x1 x2).1), vU ((scalar_ordered_uint64 x0 x1 x2).2.1), .bool ((scalar_ordered_uint64 x0 x1 x2).2.2)]) ∧ Below w.heap.size w w' := by
 simp only [vU]
 go_enter Tryz.func126, Tryz.ntmps126
 have HS : Hid (St w [⟨w.heap.size, [some (.int .u64 (tn (x0.lo))), some (.int .u64 (tn (x0.hi)))], 115⟩, ⟨w.heap.size + 1, [some (.int .u64 (tn (x1.lo))), some (.int .u64 (tn (x1.hi)))], 115⟩, ⟨w.heap.size + 2, [some (.int .u64 0), some (.int .u64 0)], 115⟩, ⟨w.heap.size + 3, [some (.int .u64 0), some (.int .u64 0)], 115⟩] _) := hid (((((st_nil w).alloc (k := w.heap.size) rfl [.int .u64 (tn (x0.lo)), .int .u64 (tn (x0.hi))] 115).alloc (k := w.heap.size + 1) (by simp) [.int .u64 (tn (x1.lo)), .int .u64 (tn (x1.hi))] 115).alloc (k := w.heap.size + 2) (by simp) [.int .u64 0, .int .u64 0] 115).alloc (k := w.heap.size + 3) (by simp) [.int .u64 0, .int .u64 0] 115)
 go_upto_region 1 with fail
 refine upb 6 (HS.out.drew) rfl ?_
 refine tv 0 (.pointer (some ⟨w.heap.size, 0, none⟩)) rfl rfl (by intro x hx; go_simp; all_goals exact rfl) ?_
 simp only [sA, sB]
 refine tv 1 (.int .u64 (tn (x0.lo))) rfl rfl (by intro x hx; have f0 := hx.load 0 0 rfl rfl; go_simp; all_goals exact rfl) ?_
 simp only [sA, sB]
 refine tv 2 (.pointer (some ⟨w.heap.size + 1, 1, none⟩)) rfl rfl (by intro x hx; go_simp; all_goals exact rfl) ?_
 simp only [sA, sB]
 refine tv 3 (.int .u64 (tn (x1.hi))) rfl rfl (by intro x hx; have f0 := hx.load 1 1 rfl rfl; go_simp; all_goals exact rfl) ?_
 simp only [sA, sB]
 refine ta 4 12 rfl rfl rfl rfl ?_
 simp only [sA, sB]
 refine ta 5 14 rfl rfl rfl rfl ?_
 simp only [sA, sB]
 clear HS
 refine td fun W1 HS => ?_
 go_upto_region 2 with fail
 refine lnb HS.out rfl ?_
 refine lm 0 9 rfl rfl rfl rfl ?_
 simp only [sA, sB]
 refine lm 1 10 rfl rfl rfl rfl ?_
 simp only [sA, sB]
 refine lv 2 (.bool (gtU x0.lo x1.hi)) rfl rfl (by intro x hx; go_simp; (first | done | exact gtUT x0.lo x1.hi | exact congrArg _ (gtUT x0.lo x1.hi) | (rw [gtUT x0.lo x1.hi]; done) | (rw [gtUT x0.lo x1.hi]; rfl))) ?_
 simp only [sA, sB]
 refine lm 3 17 rfl rfl rfl rfl ?_
 simp only [sA, sB]
 cases h1 : (gtU x0.lo x1.hi)
 ·replace h1 := hid h1
  refine lv 4 (.int .u64 (tn (x0.lo))) rfl rfl (by intro x hx; go_simp; all_goals exact rfl) ?_
  simp only [sA, sB]
  refine lv 5 (.int .u64 (tn (x1.hi))) rfl rfl (by intro x hx; go_simp; all_goals exact rfl) ?_
  simp only [sA, sB]
  refine lv 6 (.bool ((x0.lo == x1.hi))) rfl rfl (by intro x hx; go_simp; (first | done | exact eqUT x0.lo x1.hi | exact congrArg _ (eqUT x0.lo x1.hi) | (rw [eqUT x0.lo x1.hi]; done) | (rw [eqUT x0.lo x1.hi]; rfl))) ?_
  simp only [sA, sB]
  refine lv 7 (.bool ((x0.lo == x1.hi))) rfl rfl (by intro x hx; go_simp; all_goals exact rfl) ?_
  simp only [sA, sB]
  cases h2 : ((x0.lo == x1.hi))
  ·replace h2 := hid h2
   refine lin_no (i := 8) rfl rfl (by kernel_rfl) ?_
   simp only [sA, sB]
   refine lin_no (i := 9) rfl rfl (by kernel_rfl) ?_
   simp only [sA, sB]
   refine lv 10 (.bool false) rfl rfl (by intro x hx; go_simp; all_goals exact rfl) ?_
   simp only [sA, sB]
   refine lv 11 (.bool false) rfl rfl (by intro x hx; go_simp; all_goals exact rfl) ?_
   simp only [sA, sB]
   clear HS
   refine ld fun W2 HS => ?_
   go_upto_region 4 with fail
   refine lnb HS.out rfl ?_
   refine lv 0 (.pointer (some ⟨w.heap.size, 1, none⟩)) rfl rfl (by intro x hx; go_simp; all_goals exact rfl) ?_
   simp only [sA, sB]
   refine lv 1 (.int .u64 (tn (x0.hi))) rfl rfl (by intro x hx; have f0 := hx.load 0 1 rfl rfl; go_simp; all_goals exact rfl) ?_
   simp only [sA, sB]
   refine lm 2 10 rfl rfl rfl rfl ?_
   simp only [sA, sB]
   refine lm 3 2 rfl rfl rfl rfl ?_
   simp only [sA, sB]
   refine lv 4 (.int .u64 (tn (x1.hi - x2))) rfl rfl (by intro x hx; go_simp; (first | done | exact subUT x1.hi x2 | exact congrArg _ (subUT x1.hi x2) | (rw [subUT x1.hi x2]; done) | (rw [subUT x1.hi x2]; rfl))) ?_
   simp only [sA, sB]
   refine lv 5 (.int .u64 (tn (minU x0.hi (x1.hi - x2)))) rfl rfl (by intro x hx; go_simp; (first | done | exact minUT x0.hi (x1.hi - x2))) ?_
   simp only [sA, sB]
   refine lv 6 (.pointer (some ⟨w.heap.size, 1, none⟩)) rfl rfl (by intro x hx; go_simp; all_goals exact rfl) ?_
   simp only [sA, sB]
   refine ls 7 0 1 [.int .u64 (tn (minU x0.hi (x1.hi - x2)))] rfl rfl rfl (by intro x hx; obtain ⟨_, z0, q0⟩ := hx.at1 0 1 rfl; go_simp; all_goals rfl) ?_
   simp only [Blk.putC, setM, sA, sB]
   clear HS
   refine ld fun W3 HS => ?_
   go_upto_region 5 with fail
   refine lnb HS.out rfl ?_
   refine lv 0 (.pointer (some ⟨w.heap.size + 1, 0, none⟩)) rfl rfl (by intro x hx; go_simp; all_goals exact rfl) ?_
   simp only [sA, sB]
   refine lv 1 (.int .u64 (tn (x1.lo))) rfl rfl (by intro x hx; have f0 := hx.load 1 0 rfl rfl; go_simp; all_goals exact rfl) ?_
   simp only [sA, sB]
   refine lm 2 9 rfl rfl rfl rfl ?_
   simp only [sA, sB]
   refine lm 3 2 rfl rfl rfl rfl ?_
   simp only [sA, sB]
   refine lv 4 (.int .u64 (tn (x0.lo + x2))) rfl rfl (by intro x hx; go_simp; (first | done | exact addUT x0.lo x2 | exact congrArg _ (addUT x0.lo x2) | (rw [addUT x0.lo x2]; done) | (rw [addUT x0.lo x2]; rfl))) ?_
   simp only [sA, sB]
   refine lv 5 (.int .u64 (tn (maxU x1.lo (x0.lo + x2)))) rfl rfl (by intro x hx; go_simp; (first | done | exact maxUT x1.lo (x0.lo + x2))) ?_
   simp only [sA, sB]
   refine lv 6 (.pointer (some ⟨w.heap.size + 1, 0, none⟩)) rfl rfl (by intro x hx; go_simp; all_goals exact rfl) ?_
   simp only [sA, sB]
   refine ls 7 1 0 [.int .u64 (tn (maxU x1.lo (x0.lo + x2)))] rfl rfl rfl (by intro x hx; obtain ⟨_, z0, q0⟩ := hx.at1 1 0 rfl; go_simp; all_goals rfl) ?_
   simp only [Blk.putC, setM, sA, sB]
   clear HS
   refine ld fun W4 HS => ?_
   go_upto_region 6 with fail
   refine upb 5 (((HS.out.drew.forget 2 0 2 rfl).forget 3 0 2 rfl)) rfl ?_
   simp only [Blk.dropC, noneM, sA, sB]
   refine tv 0 (vU (P.mk x0.lo (minU x0.hi (x1.hi - x2)))) rfl rfl (by intro x hx; obtain ⟨f0, f1⟩ := hx.two 0 0 rfl rfl; go_simp; all_goals exact rfl) ?_
   simp only [sA, sB, vU]
   refine tv 1 (vU (P.mk (maxU x1.lo (x0.lo + x2)) x1.hi)) rfl rfl (by intro x hx; obtain ⟨f0, f1⟩ := hx.two 1 0 rfl rfl; go_simp; all_goals exact rfl) ?_
   simp only [sA, sB, vU]
   refine ts 2 2 0 (cU (P.mk x0.lo (minU x0.hi (x1.hi - x2)))) rfl rfl rfl (by intro x hx; obtain ⟨⟨_, z0, q0⟩, ⟨_, z1, q1⟩⟩ := hx.at2 2 0 rfl; go_simp; all_goals rfl) ?_
   simp only [Blk.putC, setM, cU, sA, sB]
   refine ts 3 3 0 (cU (P.mk (maxU x1.lo (x0.lo + x2)) x1.hi)) rfl rfl rfl (by intro x hx; obtain ⟨⟨_, z0, q0⟩, ⟨_, z1, q1⟩⟩ := hx.at2 3 0 rfl; go_simp; all_goals rfl) ?_
   simp only [Blk.putC, setM, cU, sA, sB]
   refine tv 4 (.bool true) rfl rfl (by intro x hx; go_simp; all_goals exact rfl) ?_
   simp only [sA, sB]
   clear HS
   refine td fun W5 HS => ?_
   go_wp2
   obtain ⟨r0, r1⟩ := HS.out.two 2 0 rfl rfl
   obtain ⟨r2, r3⟩ := HS.out.two 3 0 rfl rfl
   have HF : scalar_ordered_uint64 x0 x1 x2 = (P.mk x0.lo (minU x0.hi (x1.hi - x2)), P.mk (maxU x1.lo (x0.lo + x2)) x1.hi, true) := by
     unfold scalar_ordered_uint64
     rw [cond_f h1.out, cond_f h2.out]
   exact bodyPost_ret (v := .tuple #[vU (P.mk x0.lo (minU x0.hi (x1.hi - x2))), vU (P.mk (maxU x1.lo (x0.lo + x2)) x1.hi), .bool true]) (by simp [results, Tryz.results126, go_sem, r0, r1, r2, r3, vU]) rfl ⟨(by first | (rw [HF]; done) | (rw [HF]; rfl)), HS.out.below⟩
  ·replace h2 := hid h2
   refine lv 8 (.int .u64 (tn (x2))) rfl rfl (by intro x hx; go_simp; all_goals exact rfl) ?_
   simp only [sA, sB]
   refine lv 9 (.bool (gtU x2 0#64)) rfl rfl (by intro x hx; go_simp; (first | done | exact gtUT x2 0#64 | exact congrArg _ (gtUT x2 0#64) | (rw [gtUT x2 0#64]; done) | (rw [gtUT x2 0#64]; rfl))) ?_
   simp only [sA, sB]
   refine lv 10 (.bool (gtU x2 0#64)) rfl rfl (by intro x hx; go_simp; all_goals exact rfl) ?_
   simp only [sA, sB]
   refine lv 11 (.bool (gtU x2 0#64)) rfl rfl (by intro x hx; go_simp; all_goals exact rfl) ?_
   simp only [sA, sB]
   clear HS
   refine ld fun W2 HS => ?_
   cases h3 : (gtU x2 0#64)
   ·replace h3 := hid h3
    go_upto_region 4 with fail
    refine lnb HS.out rfl ?_
    refine lv 0 (.pointer (some ⟨w.heap.size, 1, none⟩)) rfl rfl (by intro x hx; go_simp; all_goals exact rfl) ?_
    simp only [sA, sB]
    refine lv 1 (.int .u64 (tn (x0.hi))) rfl rfl (by intro x hx; have f0 := hx.load 0 1 rfl rfl; go_simp; all_goals exact rfl) ?_
    simp only [sA, sB]
    refine lm 2 10 rfl rfl rfl rfl ?_
    simp only [sA, sB]
    refine lm 3 2 rfl rfl rfl rfl ?_
    simp only [sA, sB]
    refine lv 4 (.int .u64 (tn (x1.hi - x2))) rfl rfl (by intro x hx; go_simp; (first | done | exact subUT x1.hi x2 | exact congrArg _ (subUT x1.hi x2) | (rw [subUT x1.hi x2]; done) | (rw [subUT x1.hi x2]; rfl))) ?_
    simp only [sA, sB]
    refine lv 5 (.int .u64 (tn (minU x0.hi (x1.hi - x2)))) rfl rfl (by intro x hx; go_simp; (first | done | exact minUT x0.hi (x1.hi - x2))) ?_
    simp only [sA, sB]
    refine lv 6 (.pointer (some ⟨w.heap.size, 1, none⟩)) rfl rfl (by intro x hx; go_simp; all_goals exact rfl) ?_
    simp only [sA, sB]
    refine ls 7 0 1 [.int .u64 (tn (minU x0.hi (x1.hi - x2)))] rfl rfl rfl (by intro x hx; obtain ⟨_, z0, q0⟩ := hx.at1 0 1 rfl; go_simp; all_goals rfl) ?_
    simp only [Blk.putC, setM, sA, sB]
    clear HS
    refine ld fun W3 HS => ?_
    go_upto_region 5 with fail
    refine lnb HS.out rfl ?_
    refine lv 0 (.pointer (some ⟨w.heap.size + 1, 0, none⟩)) rfl rfl (by intro x hx; go_simp; all_goals exact rfl) ?_
    simp only [sA, sB]
    refine lv 1 (.int .u64 (tn (x1.lo))) rfl rfl (by intro x hx; have f0 := hx.load 1 0 rfl rfl; go_simp; all_goals exact rfl) ?_
    simp only [sA, sB]
    refine lm 2 9 rfl rfl rfl rfl ?_
    simp only [sA, sB]
    refine lm 3 2 rfl rfl rfl rfl ?_
    simp only [sA, sB]
    refine lv 4 (.int .u64 (tn (x0.lo + x2))) rfl rfl (by intro x hx; go_simp; (first | done | exact addUT x0.lo x2 | exact congrArg _ (addUT x0.lo x2) | (rw [addUT x0.lo x2]; done) | (rw [addUT x0.lo x2]; rfl))) ?_
    simp only [sA, sB]
    refine lv 5 (.int .u64 (tn (maxU x1.lo (x0.lo + x2)))) rfl rfl (by intro x hx; go_simp; (first | done | exact maxUT x1.lo (x0.lo + x2))) ?_
    simp only [sA, sB]
    refine lv 6 (.pointer (some ⟨w.heap.size + 1, 0, none⟩)) rfl rfl (by intro x hx; go_simp; all_goals exact rfl) ?_
    simp only [sA, sB]
    refine ls 7 1 0 [.int .u64 (tn (maxU x1.lo (x0.lo + x2)))] rfl rfl rfl (by intro x hx; obtain ⟨_, z0, q0⟩ := hx.at1 1 0 rfl; go_simp; all_goals rfl) ?_
    simp only [Blk.putC, setM, sA, sB]
    clear HS
    refine ld fun W4 HS => ?_
    go_upto_region 6 with fail
    refine upb 5 (((HS.out.drew.forget 2 0 2 rfl).forget 3 0 2 rfl)) rfl ?_
    simp only [Blk.dropC, noneM, sA, sB]
    refine tv 0 (vU (P.mk x0.lo (minU x0.hi (x1.hi - x2)))) rfl rfl (by intro x hx; obtain ⟨f0, f1⟩ := hx.two 0 0 rfl rfl; go_simp; all_goals exact rfl) ?_
    simp only [sA, sB, vU]
    refine tv 1 (vU (P.mk (maxU x1.lo (x0.lo + x2)) x1.hi)) rfl rfl (by intro x hx; obtain ⟨f0, f1⟩ := hx.two 1 0 rfl rfl; go_simp; all_goals exact rfl) ?_
    simp only [sA, sB, vU]
    refine ts 2 2 0 (cU (P.mk x0.lo (minU x0.hi (x1.hi - x2)))) rfl rfl rfl (by intro x hx; obtain ⟨⟨_, z0, q0⟩, ⟨_, z1, q1⟩⟩ := hx.at2 2 0 rfl; go_simp; all_goals rfl) ?_
    simp only [Blk.putC, setM, cU, sA, sB]
    refine ts 3 3 0 (cU (P.mk (maxU x1.lo (x0.lo + x2)) x1.hi)) rfl rfl rfl (by intro x hx; obtain ⟨⟨_, z0, q0⟩, ⟨_, z1, q1⟩⟩ := hx.at2 3 0 rfl; go_simp; all_goals rfl) ?_
    simp only [Blk.putC, setM, cU, sA, sB]
    refine tv 4 (.bool true) rfl rfl (by intro x hx; go_simp; all_goals exact rfl) ?_
    simp only [sA, sB]
    clear HS
    refine td fun W5 HS => ?_
    go_wp2
    obtain ⟨r0, r1⟩ := HS.out.two 2 0 rfl rfl
    obtain ⟨r2, r3⟩ := HS.out.two 3 0 rfl rfl
    have HF : scalar_ordered_uint64 x0 x1 x2 = (P.mk x0.lo (minU x0.hi (x1.hi - x2)), P.mk (maxU x1.lo (x0.lo + x2)) x1.hi, true) := by
      unfold scalar_ordered_uint64
      rw [cond_f h1.out, cond_t h2.out, cond_f h3.out]
    exact bodyPost_ret (v := .tuple #[vU (P.mk x0.lo (minU x0.hi (x1.hi - x2))), vU (P.mk (maxU x1.lo (x0.lo + x2)) x1.hi), .bool true]) (by simp [results, Tryz.results126, go_sem, r0, r1, r2, r3, vU]) rfl ⟨(by first | (rw [HF]; done) | (rw [HF]; rfl)), HS.out.below⟩
   ·replace h3 := hid h3
    go_upto_region 3 with fail
    refine lnb HS.out rfl ?_
    refine lv 0 (.agg #[.int .u64 0, .int .u64 0]) rfl rfl (by intro x hx; go_simp; all_goals exact rfl) ?_
    simp only [sA, sB]
    refine lv 1 (.agg #[.int .u64 0, .int .u64 0]) rfl rfl (by intro x hx; go_simp; all_goals exact rfl) ?_
    simp only [sA, sB]
    refine ls 2 2 0 [.int .u64 0, .int .u64 0] rfl rfl rfl (by intro x hx; obtain ⟨⟨_, z0, q0⟩, ⟨_, z1, q1⟩⟩ := hx.at2 2 0 rfl; go_simp; all_goals rfl) ?_
    simp only [Blk.putC, setM, sA, sB]
    refine ls 3 3 0 [.int .u64 0, .int .u64 0] rfl rfl rfl (by intro x hx; obtain ⟨⟨_, z0, q0⟩, ⟨_, z1, q1⟩⟩ := hx.at2 3 0 rfl; go_simp; all_goals rfl) ?_
    simp only [Blk.putC, setM, sA, sB]
    refine lv 4 (.bool false) rfl rfl (by intro x hx; go_simp; all_goals exact rfl) ?_
    simp only [sA, sB]
    clear HS
    refine ld fun W3 HS => ?_
    go_wp2
    obtain ⟨r0, r1⟩ := HS.out.two 2 0 rfl rfl
    obtain ⟨r2, r3⟩ := HS.out.two 3 0 rfl rfl
    have HF : scalar_ordered_uint64 x0 x1 x2 = (P.mk 0#64 0#64, P.mk 0#64 0#64, false) := by
      unfold scalar_ordered_uint64
      rw [cond_f h1.out, cond_t h2.out, cond_t h3.out]
    exact bodyPost_ret (v := .tuple #[.agg #[.int .u64 0, .int .u64 0], .agg #[.int .u64 0, .int .u64 0], .bool false]) (by simp [results, Tryz.results126, go_sem, r0, r1, r2, r3]) rfl ⟨(by first | (rw [HF]; done) | (rw [HF]; rfl)), HS.out.below⟩
 ·replace h1 := hid h1
  refine lin_no (i := 4) rfl rfl (by kernel_rfl) ?_
  simp only [sA, sB]
  refine lin_no (i := 5) rfl rfl (by kernel_rfl) ?_
  simp only [sA, sB]
  refine lin_no (i := 6) rfl rfl (by kernel_rfl) ?_
  simp only [sA, sB]
  refine lin_no (i := 7) rfl rfl (by kernel_rfl) ?_
  simp only [sA, sB]
  refine lin_no (i := 8) rfl rfl (by kernel_rfl) ?_
  simp only [sA, sB]
  refine lin_no (i := 9) rfl rfl (by kernel_rfl) ?_
  simp only [sA, sB]
  refine lin_no (i := 10) rfl rfl (by kernel_rfl) ?_
  simp only [sA, sB]
  refine lv 11 (.bool true) rfl rfl (by intro x hx; go_simp; all_goals exact rfl) ?_
  simp only [sA, sB]
  clear HS
  refine ld fun W2 HS => ?_
  go_upto_region 3 with fail
  refine lnb HS.out rfl ?_
  refine lv 0 (.agg #[.int .u64 0, .int .u64 0]) rfl rfl (by intro x hx; go_simp; all_goals exact rfl) ?_
  simp only [sA, sB]
  refine lv 1 (.agg #[.int .u64 0, .int .u64 0]) rfl rfl (by intro x hx; go_simp; all_goals exact rfl) ?_
  simp only [sA, sB]
  refine ls 2 2 0 [.int .u64 0, .int .u64 0] rfl rfl rfl (by intro x hx; obtain ⟨⟨_, z0, q0⟩, ⟨_, z1, q1⟩⟩ := hx.at2 2 0 rfl; go_simp; all_goals rfl) ?_
  simp only [Blk.putC, setM, sA, sB]
  refine ls 3 3 0 [.int .u64 0, .int .u64 0] rfl rfl rfl (by intro x hx; obtain ⟨⟨_, z0, q0⟩, ⟨_, z1, q1⟩⟩ := hx.at2 3 0 rfl; go_simp; all_goals rfl) ?_
  simp only [Blk.putC, setM, sA, sB]
  refine lv 4 (.bool false) rfl rfl (by intro x hx; go_simp; all_goals exact rfl) ?_
  simp only [sA, sB]
  clear HS
  refine ld fun W3 HS => ?_
  go_wp2
  obtain ⟨r0, r1⟩ := HS.out.two 2 0 rfl rfl
  obtain ⟨r2, r3⟩ := HS.out.two 3 0 rfl rfl
  have HF : scalar_ordered_uint64 x0 x1 x2 = (P.mk 0#64 0#64, P.mk 0#64 0#64, false) := by
    unfold scalar_ordered_uint64
    rw [cond_t h1.out]
  exact bodyPost_ret (v := .tuple #[.agg #[.int .u64 0, .int .u64 0], .agg #[.int .u64 0, .int .u64 0], .bool false]) (by simp [results, Tryz.results126, go_sem, r0, r1, r2, r3]) rfl ⟨(by first | (rw [HF]; done) | (rw [HF]; rfl)), HS.out.below⟩
def scalar_apart_int64 (x0 : P) (x1 : P)  : P × Bool :=
 bif (x1.lo != x1.hi) then ((x0, true)) else (bif eqS x0 x1 then ((P.mk 0#64 0#64, false)) else (bif (x0.lo == x1.lo) then (bif (x0.hi == x1.lo) then ((P.mk (x0.lo + 1#64) (x0.hi - 1#64), true)) else ((P.mk (x0.lo + 1#64) x0.hi, true))) else (bif (x0.hi == x1.lo) then ((P.mk x0.lo (x0.hi - 1#64), true)) else ((x0, true)))))
theorem scalar_apart_int64_any (x0 : P) (x1 : P)   (w : World) :
   Calls Tryz.prog 125 #[vI x0, vI x1] w fun e w' => e = .returned (.tuple #[vI ((scalar_apart_int64 x0 x1).1), .bool ((scalar_apart_int64 x0 x1).2)]) ∧ Below w.heap.size w w' := by
 simp only [vI]
 go_enter Tryz.func125, Tryz.ntmps125
 have HS : Hid (St w [⟨w.heap.size, [some (.int .i64 (ti (x0.lo))), some (.int .i64 (ti (x0.hi)))], 120⟩, ⟨w.heap.size + 1, [some (.int .i64 (ti (x1.lo))), some (.int .i64 (ti (x1.hi)))], 120⟩, ⟨w.heap.size + 2, [some (.int .i64 0), some (.int .i64 0)], 120⟩] _) := hid ((((st_nil w).alloc (k := w.heap.size) rfl [.int .i64 (ti (x0.lo)), .int .i64 (ti (x0.hi))] 120).alloc (k := w.heap.size + 1) (by simp) [.int .i64 (ti (x1.lo)), .int .i64 (ti (x1.hi))] 120).alloc (k := w.heap.size + 2) (by simp) [.int .i64 0, .int .i64 0] 120)
 go_upto_region 1 with fail
 refine lnb HS.out rfl ?_
 refine lv 0 (.pointer (some ⟨w.heap.size + 1, 0, none⟩)) rfl rfl (by intro x hx; go_simp; all_goals exact rfl) ?_
 simp only [sA, sB]
 refine lv 1 (.int .i64 (ti (x1.lo))) rfl rfl (by intro x hx; have f0 := hx.load 1 0 rfl rfl; go_simp; all_goals exact rfl) ?_
 simp only [sA, sB]
 refine lv 2 (.pointer (some ⟨w.heap.size + 1, 1, none⟩)) rfl rfl (by intro x hx; go_simp; all_goals exact rfl) ?_
 simp only [sA, sB]
 refine lv 3 (.int .i64 (ti (x1.hi))) rfl rfl (by intro x hx; have f0 := hx.load 1 1 rfl rfl; go_simp; all_goals exact rfl) ?_
 simp only [sA, sB]
 refine lv 4 (.bool ((x1.lo != x1.hi))) rfl rfl (by intro x hx; go_simp; (first | done | exact neIT x1.lo x1.hi | exact congrArg _ (neIT x1.lo x1.hi) | (rw [neIT x1.lo x1.hi]; done) | (rw [neIT x1.lo x1.hi]; rfl))) ?_
 simp only [sA, sB]
 clear HS
 refine ld fun W1 HS => ?_
 cases h1 : ((x1.lo != x1.hi))
 ·replace h1 := hid h1
  go_upto_region 3 with fail
  refine lnb HS.out rfl ?_
  refine lv 0 (vI x0) rfl rfl (by intro x hx; obtain ⟨f0, f1⟩ := hx.two 0 0 rfl rfl; go_simp; all_goals exact rfl) ?_
  simp only [sA, sB, vI]
  refine lv 1 (vI x1) rfl rfl (by intro x hx; obtain ⟨f0, f1⟩ := hx.two 1 0 rfl rfl; go_simp; all_goals exact rfl) ?_
  simp only [sA, sB, vI]
  refine lv 2 (.bool (eqS x0 x1)) rfl rfl (by intro x hx; go_simp; (first | done | (rw [eqA_i]; rfl))) ?_
  simp only [sA, sB]
  clear HS
  refine ld fun W2 HS => ?_
  cases h2 : (eqS x0 x1)
  ·replace h2 := hid h2
   go_upto_region 5 with fail
   refine lnb HS.out rfl ?_
   refine lv 0 (.pointer (some ⟨w.heap.size, 0, none⟩)) rfl rfl (by intro x hx; go_simp; all_goals exact rfl) ?_
   simp only [sA, sB]
   refine lv 1 (.int .i64 (ti (x0.lo))) rfl rfl (by intro x hx; have f0 := hx.load 0 0 rfl rfl; go_simp; all_goals exact rfl) ?_
   simp only [sA, sB]
   refine lv 2 (.pointer (some ⟨w.heap.size + 1, 0, none⟩)) rfl rfl (by intro x hx; go_simp; all_goals exact rfl) ?_
   simp only [sA, sB]
   refine lv 3 (.int .i64 (ti (x1.lo))) rfl rfl (by intro x hx; have f0 := hx.load 1 0 rfl rfl; go_simp; all_goals exact rfl) ?_
   simp only [sA, sB]
   refine lv 4 (.bool ((x0.lo == x1.lo))) rfl rfl (by intro x hx; go_simp; (first | done | exact eqIT x0.lo x1.lo | exact congrArg _ (eqIT x0.lo x1.lo) | (rw [eqIT x0.lo x1.lo]; done) | (rw [eqIT x0.lo x1.lo]; rfl))) ?_
   simp only [sA, sB]
   clear HS
   refine ld fun W3 HS => ?_
   cases h3 : ((x0.lo == x1.lo))
   ·replace h3 := hid h3
    go_upto_region 7 with fail
    refine lnb HS.out rfl ?_
    refine lv 0 (.pointer (some ⟨w.heap.size, 1, none⟩)) rfl rfl (by intro x hx; go_simp; all_goals exact rfl) ?_
    simp only [sA, sB]
    refine lv 1 (.int .i64 (ti (x0.hi))) rfl rfl (by intro x hx; have f0 := hx.load 0 1 rfl rfl; go_simp; all_goals exact rfl) ?_
    simp only [sA, sB]
    refine lv 2 (.pointer (some ⟨w.heap.size + 1, 0, none⟩)) rfl rfl (by intro x hx; go_simp; all_goals exact rfl) ?_
    simp only [sA, sB]
    refine lv 3 (.int .i64 (ti (x1.lo))) rfl rfl (by intro x hx; have f0 := hx.load 1 0 rfl rfl; go_simp; all_goals exact rfl) ?_
    simp only [sA, sB]
    refine lv 4 (.bool ((x0.hi == x1.lo))) rfl rfl (by intro x hx; go_simp; (first | done | exact eqIT x0.hi x1.lo | exact congrArg _ (eqIT x0.hi x1.lo) | (rw [eqIT x0.hi x1.lo]; done) | (rw [eqIT x0.hi x1.lo]; rfl))) ?_
    simp only [sA, sB]
    clear HS
    refine ld fun W4 HS => ?_
    cases h4 : ((x0.hi == x1.lo))
    ·replace h4 := hid h4
     go_upto_region 9 with fail
     refine lnb HS.out rfl ?_
     refine lv 0 (vI x0) rfl rfl (by intro x hx; obtain ⟨f0, f1⟩ := hx.two 0 0 rfl rfl; go_simp; all_goals exact rfl) ?_
     simp only [sA, sB, vI]
     refine ls 1 2 0 (cI x0) rfl rfl rfl (by intro x hx; obtain ⟨⟨_, z0, q0⟩, ⟨_, z1, q1⟩⟩ := hx.at2 2 0 rfl; go_simp; all_goals rfl) ?_
     simp only [Blk.putC, setM, cI, sA, sB]
     refine lv 2 (.bool true) rfl rfl (by intro x hx; go_simp; all_goals exact rfl) ?_
     simp only [sA, sB]
     clear HS
     refine ld fun W5 HS => ?_
     go_wp2
     obtain ⟨r0, r1⟩ := HS.out.two 2 0 rfl rfl
     have HF : scalar_apart_int64 x0 x1 = (x0, true) := by
       unfold scalar_apart_int64
       rw [cond_f h1.out, cond_f h2.out, cond_f h3.out, cond_f h4.out]
     exact bodyPost_ret (v := .tuple #[vI x0, .bool true]) (by simp [results, Tryz.results125, go_sem, r0, r1, vI]) rfl ⟨(by first | (rw [HF]; done) | (rw [HF]; rfl)), HS.out.below⟩
    ·replace h4 := hid h4
     go_upto_region 8 with fail
     refine lnb HS.out rfl ?_
     refine lv 0 (.pointer (some ⟨w.heap.size, 1, none⟩)) rfl rfl (by intro x hx; go_simp; all_goals exact rfl) ?_
     simp only [sA, sB]
     refine lv 1 (.int .i64 (ti (x0.hi))) rfl rfl (by intro x hx; have f0 := hx.load 0 1 rfl rfl; go_simp; all_goals exact rfl) ?_
     simp only [sA, sB]
     refine lv 2 (.int .i64 (ti (x0.hi - 1#64))) rfl rfl (by intro x hx; exact (show _ = Result.ok (Next.value (.int .i64 (IntKind.i64.wrap ((ti (x0.hi) : Int) - (1))))) x by kernel_rfl).trans (by rw [show (1 : Int) = ti 1#64 from by decide, subIT x0.hi 1#64])) ?_
     simp only [sA, sB]
     refine lv 3 (.pointer (some ⟨w.heap.size, 1, none⟩)) rfl rfl (by intro x hx; go_simp; all_goals exact rfl) ?_
     simp only [sA, sB]
     refine ls 4 0 1 [.int .i64 (ti (x0.hi - 1#64))] rfl rfl rfl (by intro x hx; obtain ⟨_, z0, q0⟩ := hx.at1 0 1 rfl; go_simp; all_goals rfl) ?_
     simp only [Blk.putC, setM, sA, sB]
     clear HS
     refine ld fun W5 HS => ?_
     go_upto_region 9 with fail
     refine lnb HS.out rfl ?_
     refine lv 0 (vI (P.mk x0.lo (x0.hi - 1#64))) rfl rfl (by intro x hx; obtain ⟨f0, f1⟩ := hx.two 0 0 rfl rfl; go_simp; all_goals exact rfl) ?_
     simp only [sA, sB, vI]
     refine ls 1 2 0 (cI (P.mk x0.lo (x0.hi - 1#64))) rfl rfl rfl (by intro x hx; obtain ⟨⟨_, z0, q0⟩, ⟨_, z1, q1⟩⟩ := hx.at2 2 0 rfl; go_simp; all_goals rfl) ?_
     simp only [Blk.putC, setM, cI, sA, sB]
     refine lv 2 (.bool true) rfl rfl (by intro x hx; go_simp; all_goals exact rfl) ?_
     simp only [sA, sB]
     clear HS
     refine ld fun W6 HS => ?_
     go_wp2
     obtain ⟨r0, r1⟩ := HS.out.two 2 0 rfl rfl
     have HF : scalar_apart_int64 x0 x1 = (P.mk x0.lo (x0.hi - 1#64), true) := by
       unfold scalar_apart_int64
       rw [cond_f h1.out, cond_f h2.out, cond_f h3.out, cond_t h4.out]
     exact bodyPost_ret (v := .tuple #[vI (P.mk x0.lo (x0.hi - 1#64)), .bool true]) (by simp [results, Tryz.results125, go_sem, r0, r1, vI]) rfl ⟨(by first | (rw [HF]; done) | (rw [HF]; rfl)), HS.out.below⟩
   ·replace h3 := hid h3
    go_upto_region 6 with fail
    refine lnb HS.out rfl ?_
    refine lv 0 (.pointer (some ⟨w.heap.size, 0, none⟩)) rfl rfl (by intro x hx; go_simp; all_goals exact rfl) ?_
    simp only [sA, sB]
    refine lv 1 (.int .i64 (ti (x0.lo))) rfl rfl (by intro x hx; have f0 := hx.load 0 0 rfl rfl; go_simp; all_goals exact rfl) ?_
    simp only [sA, sB]
    refine lv 2 (.int .i64 (ti (x0.lo + 1#64))) rfl rfl (by intro x hx; exact (show _ = Result.ok (Next.value (.int .i64 (IntKind.i64.wrap ((ti (x0.lo) : Int) + (1))))) x by kernel_rfl).trans (by rw [show (1 : Int) = ti 1#64 from by decide, addIT x0.lo 1#64])) ?_
    simp only [sA, sB]
    refine lv 3 (.pointer (some ⟨w.heap.size, 0, none⟩)) rfl rfl (by intro x hx; go_simp; all_goals exact rfl) ?_
    simp only [sA, sB]
    refine ls 4 0 0 [.int .i64 (ti (x0.lo + 1#64))] rfl rfl rfl (by intro x hx; obtain ⟨_, z0, q0⟩ := hx.at1 0 0 rfl; go_simp; all_goals rfl) ?_
    simp only [Blk.putC, setM, sB]
    clear HS
    refine ld fun W4 HS => ?_
    go_upto_region 7 with fail
    refine lnb HS.out rfl ?_
    refine lv 0 (.pointer (some ⟨w.heap.size, 1, none⟩)) rfl rfl (by intro x hx; go_simp; all_goals exact rfl) ?_
    simp only [sA, sB]
    refine lv 1 (.int .i64 (ti (x0.hi))) rfl rfl (by intro x hx; have f0 := hx.load 0 1 rfl rfl; go_simp; all_goals exact rfl) ?_
    simp only [sA, sB]
    refine lv 2 (.pointer (some ⟨w.heap.size + 1, 0, none⟩)) rfl rfl (by intro x hx; go_simp; all_goals exact rfl) ?_
    simp only [sA, sB]
    refine lv 3 (.int .i64 (ti (x1.lo))) rfl rfl (by intro x hx; have f0 := hx.load 1 0 rfl rfl; go_simp; all_goals exact rfl) ?_
    simp only [sA, sB]
    refine lv 4 (.bool ((x0.hi == x1.lo))) rfl rfl (by intro x hx; go_simp; (first | done | exact eqIT x0.hi x1.lo | exact congrArg _ (eqIT x0.hi x1.lo) | (rw [eqIT x0.hi x1.lo]; done) | (rw [eqIT x0.hi x1.lo]; rfl))) ?_
    simp only [sA, sB]
    clear HS
    refine ld fun W5 HS => ?_
    cases h4 : ((x0.hi == x1.lo))
    ·replace h4 := hid h4
     go_upto_region 9 with fail
     refine lnb HS.out rfl ?_
     refine lv 0 (vI (P.mk (x0.lo + 1#64) x0.hi)) rfl rfl (by intro x hx; obtain ⟨f0, f1⟩ := hx.two 0 0 rfl rfl; go_simp; all_goals exact rfl) ?_
     simp only [sA, sB, vI]
     refine ls 1 2 0 (cI (P.mk (x0.lo + 1#64) x0.hi)) rfl rfl rfl (by intro x hx; obtain ⟨⟨_, z0, q0⟩, ⟨_, z1, q1⟩⟩ := hx.at2 2 0 rfl; go_simp; all_goals rfl) ?_
     simp only [Blk.putC, setM, cI, sA, sB]
     refine lv 2 (.bool true) rfl rfl (by intro x hx; go_simp; all_goals exact rfl) ?_
     simp only [sA, sB]
     clear HS
     refine ld fun W6 HS => ?_
     go_wp2
     obtain ⟨r0, r1⟩ := HS.out.two 2 0 rfl rfl
     have HF : scalar_apart_int64 x0 x1 = (P.mk (x0.lo + 1#64) x0.hi, true) := by
       unfold scalar_apart_int64
       rw [cond_f h1.out, cond_f h2.out, cond_t h3.out, cond_f h4.out]
     exact bodyPost_ret (v := .tuple #[vI (P.mk (x0.lo + 1#64) x0.hi), .bool true]) (by simp [results, Tryz.results125, go_sem, r0, r1, vI]) rfl ⟨(by first | (rw [HF]; done) | (rw [HF]; rfl)), HS.out.below⟩
    ·replace h4 := hid h4
     go_upto_region 8 with fail
     refine lnb HS.out rfl ?_
     refine lv 0 (.pointer (some ⟨w.heap.size, 1, none⟩)) rfl rfl (by intro x hx; go_simp; all_goals exact rfl) ?_
     simp only [sA, sB]
     refine lv 1 (.int .i64 (ti (x0.hi))) rfl rfl (by intro x hx; have f0 := hx.load 0 1 rfl rfl; go_simp; all_goals exact rfl) ?_
     simp only [sA, sB]
     refine lv 2 (.int .i64 (ti (x0.hi - 1#64))) rfl rfl (by intro x hx; exact (show _ = Result.ok (Next.value (.int .i64 (IntKind.i64.wrap ((ti (x0.hi) : Int) - (1))))) x by kernel_rfl).trans (by rw [show (1 : Int) = ti 1#64 from by decide, subIT x0.hi 1#64])) ?_
     simp only [sA, sB]
     refine lv 3 (.pointer (some ⟨w.heap.size, 1, none⟩)) rfl rfl (by intro x hx; go_simp; all_goals exact rfl) ?_
     simp only [sA, sB]
     refine ls 4 0 1 [.int .i64 (ti (x0.hi - 1#64))] rfl rfl rfl (by intro x hx; obtain ⟨_, z0, q0⟩ := hx.at1 0 1 rfl; go_simp; all_goals rfl) ?_
     simp only [Blk.putC, setM, sA, sB]
     clear HS
     refine ld fun W6 HS => ?_
     go_upto_region 9 with fail
     refine lnb HS.out rfl ?_
     refine lv 0 (vI (P.mk (x0.lo + 1#64) (x0.hi - 1#64))) rfl rfl (by intro x hx; obtain ⟨f0, f1⟩ := hx.two 0 0 rfl rfl; go_simp; all_goals exact rfl) ?_
     simp only [sA, sB, vI]
     refine ls 1 2 0 (cI (P.mk (x0.lo + 1#64) (x0.hi - 1#64))) rfl rfl rfl (by intro x hx; obtain ⟨⟨_, z0, q0⟩, ⟨_, z1, q1⟩⟩ := hx.at2 2 0 rfl; go_simp; all_goals rfl) ?_
     simp only [Blk.putC, setM, cI, sA, sB]
     refine lv 2 (.bool true) rfl rfl (by intro x hx; go_simp; all_goals exact rfl) ?_
     simp only [sA, sB]
     clear HS
     refine ld fun W7 HS => ?_
     go_wp2
     obtain ⟨r0, r1⟩ := HS.out.two 2 0 rfl rfl
     have HF : scalar_apart_int64 x0 x1 = (P.mk (x0.lo + 1#64) (x0.hi - 1#64), true) := by
       unfold scalar_apart_int64
       rw [cond_f h1.out, cond_f h2.out, cond_t h3.out, cond_t h4.out]
     exact bodyPost_ret (v := .tuple #[vI (P.mk (x0.lo + 1#64) (x0.hi - 1#64)), .bool true]) (by simp [results, Tryz.results125, go_sem, r0, r1, vI]) rfl ⟨(by first | (rw [HF]; done) | (rw [HF]; rfl)), HS.out.below⟩
  ·replace h2 := hid h2
   go_upto_region 4 with fail
   refine lnb HS.out rfl ?_
   refine lv 0 (.agg #[.int .i64 0, .int .i64 0]) rfl rfl (by intro x hx; go_simp; all_goals exact rfl) ?_
   simp only [sA, sB]
   refine ls 1 2 0 [.int .i64 0, .int .i64 0] rfl rfl rfl (by intro x hx; obtain ⟨⟨_, z0, q0⟩, ⟨_, z1, q1⟩⟩ := hx.at2 2 0 rfl; go_simp; all_goals rfl) ?_
   simp only [Blk.putC, setM, sA, sB]
   refine lv 2 (.bool false) rfl rfl (by intro x hx; go_simp; all_goals exact rfl) ?_
   simp only [sA, sB]
   clear HS
   refine ld fun W3 HS => ?_
   go_wp2
   obtain ⟨r0, r1⟩ := HS.out.two 2 0 rfl rfl
   have HF : scalar_apart_int64 x0 x1 = (P.mk 0#64 0#64, false) := by
     unfold scalar_apart_int64
     rw [cond_f h1.out, cond_t h2.out]
   exact bodyPost_ret (v := .tuple #[.agg #[.int .i64 0, .int .i64 0], .bool false]) (by simp [results, Tryz.results125, go_sem, r0, r1]) rfl ⟨(by first | (rw [HF]; done) | (rw [HF]; rfl)), HS.out.below⟩
 ·replace h1 := hid h1
  go_upto_region 2 with fail
  refine lnb HS.out rfl ?_
  refine lv 0 (vI x0) rfl rfl (by intro x hx; obtain ⟨f0, f1⟩ := hx.two 0 0 rfl rfl; go_simp; all_goals exact rfl) ?_
  simp only [sA, sB, vI]
  refine ls 1 2 0 (cI x0) rfl rfl rfl (by intro x hx; obtain ⟨⟨_, z0, q0⟩, ⟨_, z1, q1⟩⟩ := hx.at2 2 0 rfl; go_simp; all_goals rfl) ?_
  simp only [Blk.putC, setM, cI, sA, sB]
  refine lv 2 (.bool true) rfl rfl (by intro x hx; go_simp; all_goals exact rfl) ?_
  simp only [sA, sB]
  clear HS
  refine ld fun W2 HS => ?_
  go_wp2
  obtain ⟨r0, r1⟩ := HS.out.two 2 0 rfl rfl
  have HF : scalar_apart_int64 x0 x1 = (x0, true) := by
    unfold scalar_apart_int64
    rw [cond_t h1.out]
  exact bodyPost_ret (v := .tuple #[vI x0, .bool true]) (by simp [results, Tryz.results125, go_sem, r0, r1, vI]) rfl ⟨(by first | (rw [HF]; done) | (rw [HF]; rfl)), HS.out.below⟩
def scalar_bothApart_int64 (x0 : P) (x1 : P)  : P × P × Bool :=
 bif (!((scalar_apart_int64 x0 x1).2)) then ((P.mk 0#64 0#64, P.mk 0#64 0#64, false)) else (((scalar_apart_int64 x0 x1).1, (scalar_apart_int64 x1 ((scalar_apart_int64 x0 x1).1)).1, (scalar_apart_int64 x1 ((scalar_apart_int64 x0 x1).1)).2))
theorem scalar_bothApart_int64_any (x0 : P) (x1 : P)   (w : World) :
   Calls Tryz.prog 92 #[vI x0, vI x1] w fun e w' => e = .returned (.tuple #[vI ((scalar_bothApart_int64 x0 x1).1), vI ((scalar_bothApart_int64 x0 x1).2.1), .bool ((scalar_bothApart_int64 x0 x1).2.2)]) ∧ Below w.heap.size w w' := by
 simp only [vI]
 go_enter Tryz.func92, Tryz.ntmps92
 have HS : Hid (St w [⟨w.heap.size, [some (.int .i64 (ti (x0.lo))), some (.int .i64 (ti (x0.hi)))], 120⟩, ⟨w.heap.size + 1, [some (.int .i64 (ti (x1.lo))), some (.int .i64 (ti (x1.hi)))], 120⟩, ⟨w.heap.size + 2, [some (.int .i64 0), some (.int .i64 0)], 120⟩, ⟨w.heap.size + 3, [some (.int .i64 0), some (.int .i64 0)], 120⟩] _) := hid (((((st_nil w).alloc (k := w.heap.size) rfl [.int .i64 (ti (x0.lo)), .int .i64 (ti (x0.hi))] 120).alloc (k := w.heap.size + 1) (by simp) [.int .i64 (ti (x1.lo)), .int .i64 (ti (x1.hi))] 120).alloc (k := w.heap.size + 2) (by simp) [.int .i64 0, .int .i64 0] 120).alloc (k := w.heap.size + 3) (by simp) [.int .i64 0, .int .i64 0] 120)
 go_upto_region 1 with fail
 refine lnb HS.out rfl ?_
 refine lv 0 (vI x0) rfl rfl (by intro x hx; obtain ⟨f0, f1⟩ := hx.two 0 0 rfl rfl; go_simp; all_goals exact rfl) ?_
 simp only [sA, sB, vI]
 refine lv 1 (vI x1) rfl rfl (by intro x hx; obtain ⟨f0, f1⟩ := hx.two 1 0 rfl rfl; go_simp; all_goals exact rfl) ?_
 simp only [sA, sB, vI]
 refine lc 2 125 #[vI x0, vI x1] (.tuple #[vI ((scalar_apart_int64 x0 x1).1), .bool ((scalar_apart_int64 x0 x1).2)]) rfl rfl (by intro x hx; exact scalar_apart_int64_any x0 x1 _) ?_
 simp only [sA, sB, vI]
 refine lm 3 11 rfl rfl rfl rfl ?_
 simp only [sA, sB]
 refine lv 4 (vI ((scalar_apart_int64 x0 x1).1)) rfl rfl (by intro x hx; go_simp; all_goals exact rfl) ?_
 simp only [sA, sB, vI]
 refine lv 5 (.bool ((scalar_apart_int64 x0 x1).2)) rfl rfl (by intro x hx; go_simp; all_goals exact rfl) ?_
 simp only [sA, sB]
 refine ls 6 0 0 (cI ((scalar_apart_int64 x0 x1).1)) rfl rfl rfl (by intro x hx; obtain ⟨⟨_, z0, q0⟩, ⟨_, z1, q1⟩⟩ := hx.at2 0 0 rfl; go_simp; all_goals rfl) ?_
 simp only [Blk.putC, setM, cI, sA, sB]
 refine la 7 13 rfl rfl rfl rfl ?_
 simp only [sA, sB]
 clear HS
 refine ld fun W1 HS => ?_
 go_upto_region 2 with fail
 refine lnb HS.out rfl ?_
 refine lm 0 7 rfl rfl rfl rfl ?_
 simp only [sA, sB]
 refine lv 1 (.bool ((!((scalar_apart_int64 x0 x1).2)))) rfl rfl (by intro x hx; go_simp; all_goals exact rfl) ?_
 simp only [sA, sB]
 clear HS
 refine ld fun W2 HS => ?_
 cases h1 : ((!((scalar_apart_int64 x0 x1).2)))
 ·replace h1 := hid h1
  go_upto_region 4 with fail
  refine lnb HS.out rfl ?_
  refine lv 0 (vI x1) rfl rfl (by intro x hx; obtain ⟨f0, f1⟩ := hx.two 1 0 rfl rfl; go_simp; all_goals exact rfl) ?_
  simp only [sA, sB, vI]
  refine lv 1 (vI ((scalar_apart_int64 x0 x1).1)) rfl rfl (by intro x hx; obtain ⟨f0, f1⟩ := hx.two 0 0 rfl rfl; go_simp; all_goals exact rfl) ?_
  simp only [sA, sB, vI]
  refine lc 2 125 #[vI x1, vI ((scalar_apart_int64 x0 x1).1)] (.tuple #[vI ((scalar_apart_int64 x1 ((scalar_apart_int64 x0 x1).1)).1), .bool ((scalar_apart_int64 x1 ((scalar_apart_int64 x0 x1).1)).2)]) rfl rfl (by intro x hx; exact scalar_apart_int64_any x1 ((scalar_apart_int64 x0 x1).1) _) ?_
  simp only [sA, sB, vI]
  refine lm 3 21 rfl rfl rfl rfl ?_
  simp only [sA, sB]
  refine lv 4 (vI ((scalar_apart_int64 x1 ((scalar_apart_int64 x0 x1).1)).1)) rfl rfl (by intro x hx; go_simp; all_goals exact rfl) ?_
  simp only [sA, sB, vI]
  refine lv 5 (.bool ((scalar_apart_int64 x1 ((scalar_apart_int64 x0 x1).1)).2)) rfl rfl (by intro x hx; go_simp; all_goals exact rfl) ?_
  simp only [sA, sB]
  refine ls 6 1 0 (cI ((scalar_apart_int64 x1 ((scalar_apart_int64 x0 x1).1)).1)) rfl rfl rfl (by intro x hx; obtain ⟨⟨_, z0, q0⟩, ⟨_, z1, q1⟩⟩ := hx.at2 1 0 rfl; go_simp; all_goals rfl) ?_
  simp only [Blk.putC, setM, cI, sA, sB]
  refine la 7 23 rfl rfl rfl rfl ?_
  simp only [sA, sB]
  clear HS
  refine ld fun W3 HS => ?_
  go_upto_region 5 with fail
  refine upb 6 (((HS.out.drew.forget 2 0 2 rfl).forget 3 0 2 rfl)) rfl ?_
  simp only [Blk.dropC, noneM, sA, sB]
  refine tv 0 (vI ((scalar_apart_int64 x0 x1).1)) rfl rfl (by intro x hx; obtain ⟨f0, f1⟩ := hx.two 0 0 rfl rfl; go_simp; all_goals exact rfl) ?_
  simp only [sA, sB, vI]
  refine tv 1 (vI ((scalar_apart_int64 x1 ((scalar_apart_int64 x0 x1).1)).1)) rfl rfl (by intro x hx; obtain ⟨f0, f1⟩ := hx.two 1 0 rfl rfl; go_simp; all_goals exact rfl) ?_
  simp only [sA, sB, vI]
  refine tm 2 7 rfl rfl rfl rfl ?_
  simp only [sA, sB]
  refine ts 3 2 0 (cI ((scalar_apart_int64 x0 x1).1)) rfl rfl rfl (by intro x hx; obtain ⟨⟨_, z0, q0⟩, ⟨_, z1, q1⟩⟩ := hx.at2 2 0 rfl; go_simp; all_goals rfl) ?_
  simp only [Blk.putC, setM, cI, sA, sB]
  refine ts 4 3 0 (cI ((scalar_apart_int64 x1 ((scalar_apart_int64 x0 x1).1)).1)) rfl rfl rfl (by intro x hx; obtain ⟨⟨_, z0, q0⟩, ⟨_, z1, q1⟩⟩ := hx.at2 3 0 rfl; go_simp; all_goals rfl) ?_
  simp only [Blk.putC, setM, cI, sA, sB]
  refine ta 5 26 rfl rfl rfl rfl ?_
  simp only [sA, sB]
  clear HS
  refine td fun W4 HS => ?_
  go_wp2
  obtain ⟨r0, r1⟩ := HS.out.two 2 0 rfl rfl
  obtain ⟨r2, r3⟩ := HS.out.two 3 0 rfl rfl
  have HF : scalar_bothApart_int64 x0 x1 = ((scalar_apart_int64 x0 x1).1, (scalar_apart_int64 x1 ((scalar_apart_int64 x0 x1).1)).1, (scalar_apart_int64 x1 ((scalar_apart_int64 x0 x1).1)).2) := by
    unfold scalar_bothApart_int64
    rw [cond_f h1.out]
  exact bodyPost_ret (v := .tuple #[vI ((scalar_apart_int64 x0 x1).1), vI ((scalar_apart_int64 x1 ((scalar_apart_int64 x0 x1).1)).1), .bool ((scalar_apart_int64 x1 ((scalar_apart_int64 x0 x1).1)).2)]) (by simp [results, Tryz.results92, go_sem, r0, r1, r2, r3, vI]) rfl ⟨(by first | (rw [HF]; done) | (rw [HF]; rfl)), HS.out.below⟩
 ·replace h1 := hid h1
  go_upto_region 3 with fail
  refine lnb HS.out rfl ?_
  refine lv 0 (.agg #[.int .i64 0, .int .i64 0]) rfl rfl (by intro x hx; go_simp; all_goals exact rfl) ?_
  simp only [sA, sB]
  refine lv 1 (.agg #[.int .i64 0, .int .i64 0]) rfl rfl (by intro x hx; go_simp; all_goals exact rfl) ?_
  simp only [sA, sB]
  refine ls 2 2 0 [.int .i64 0, .int .i64 0] rfl rfl rfl (by intro x hx; obtain ⟨⟨_, z0, q0⟩, ⟨_, z1, q1⟩⟩ := hx.at2 2 0 rfl; go_simp; all_goals rfl) ?_
  simp only [Blk.putC, setM, sA, sB]
  refine ls 3 3 0 [.int .i64 0, .int .i64 0] rfl rfl rfl (by intro x hx; obtain ⟨⟨_, z0, q0⟩, ⟨_, z1, q1⟩⟩ := hx.at2 3 0 rfl; go_simp; all_goals rfl) ?_
  simp only [Blk.putC, setM, sA, sB]
  refine lv 4 (.bool false) rfl rfl (by intro x hx; go_simp; all_goals exact rfl) ?_
  simp only [sA, sB]
  clear HS
  refine ld fun W3 HS => ?_
  go_wp2
  obtain ⟨r0, r1⟩ := HS.out.two 2 0 rfl rfl
  obtain ⟨r2, r3⟩ := HS.out.two 3 0 rfl rfl
  have HF : scalar_bothApart_int64 x0 x1 = (P.mk 0#64 0#64, P.mk 0#64 0#64, false) := by
    unfold scalar_bothApart_int64
    rw [cond_t h1.out]
  exact bodyPost_ret (v := .tuple #[.agg #[.int .i64 0, .int .i64 0], .agg #[.int .i64 0, .int .i64 0], .bool false]) (by simp [results, Tryz.results92, go_sem, r0, r1, r2, r3]) rfl ⟨(by first | (rw [HF]; done) | (rw [HF]; rfl)), HS.out.below⟩
def scalar_ordered_int64 (x0 : P) (x1 : P) (x2 : BitVec 64)  : P × P × Bool :=
 bif gtI x0.lo x1.hi then ((P.mk 0#64 0#64, P.mk 0#64 0#64, false)) else (bif (x0.lo == x1.hi) then (bif gtI x2 0#64 then ((P.mk 0#64 0#64, P.mk 0#64 0#64, false)) else ((P.mk x0.lo (minI x0.hi (x1.hi - x2)), P.mk (maxI x1.lo (x0.lo + x2)) x1.hi, true))) else ((P.mk x0.lo (minI x0.hi (x1.hi - x2)), P.mk (maxI x1.lo (x0.lo + x2)) x1.hi, true)))
theorem scalar_ordered_int64_any (x0 : P) (x1 : P) (x2 : BitVec 64)   (w : World) :
   Calls Tryz.prog 127 #[vI x0, vI x1, .int .i64 (ti (x2))] w fun e w' => e = .returned (.tuple #[vI ((scalar_ordered_int64 x0 x1 x2).1), vI ((scalar_ordered_int64 x0 x1 x2).2.1), .bool ((scalar_ordered_int64 x0 x1 x2).2.2)]) ∧ Below w.heap.size w w' := by
 simp only [vI]
 go_enter Tryz.func127, Tryz.ntmps127
 have HS : Hid (St w [⟨w.heap.size, [some (.int .i64 (ti (x0.lo))), some (.int .i64 (ti (x0.hi)))], 120⟩, ⟨w.heap.size + 1, [some (.int .i64 (ti (x1.lo))), some (.int .i64 (ti (x1.hi)))], 120⟩, ⟨w.heap.size + 2, [some (.int .i64 0), some (.int .i64 0)], 120⟩, ⟨w.heap.size + 3, [some (.int .i64 0), some (.int .i64 0)], 120⟩] _) := hid (((((st_nil w).alloc (k := w.heap.size) rfl [.int .i64 (ti (x0.lo)), .int .i64 (ti (x0.hi))] 120).alloc (k := w.heap.size + 1) (by simp) [.int .i64 (ti (x1.lo)), .int .i64 (ti (x1.hi))] 120).alloc (k := w.heap.size + 2) (by simp) [.int .i64 0, .int .i64 0] 120).alloc (k := w.heap.size + 3) (by simp) [.int .i64 0, .int .i64 0] 120)
 go_upto_region 1 with fail
 refine upb 6 (HS.out.drew) rfl ?_
 refine tv 0 (.pointer (some ⟨w.heap.size, 0, none⟩)) rfl rfl (by intro x hx; go_simp; all_goals exact rfl) ?_
 simp only [sA, sB]
 refine tv 1 (.int .i64 (ti (x0.lo))) rfl rfl (by intro x hx; have f0 := hx.load 0 0 rfl rfl; go_simp; all_goals exact rfl) ?_
 simp only [sA, sB]
 refine tv 2 (.pointer (some ⟨w.heap.size + 1, 1, none⟩)) rfl rfl (by intro x hx; go_simp; all_goals exact rfl) ?_
 simp only [sA, sB]
 refine tv 3 (.int .i64 (ti (x1.hi))) rfl rfl (by intro x hx; have f0 := hx.load 1 1 rfl rfl; go_simp; all_goals exact rfl) ?_
 simp only [sA, sB]
 refine ta 4 12 rfl rfl rfl rfl ?_
 simp only [sA, sB]
 refine ta 5 14 rfl rfl rfl rfl ?_
 simp only [sA, sB]
 clear HS
 refine td fun W1 HS => ?_
 go_upto_region 2 with fail
 refine lnb HS.out rfl ?_
 refine lm 0 9 rfl rfl rfl rfl ?_
 simp only [sA, sB]
 refine lm 1 10 rfl rfl rfl rfl ?_
 simp only [sA, sB]
 refine lv 2 (.bool (gtI x0.lo x1.hi)) rfl rfl (by intro x hx; go_simp; (first | done | exact gtIT x0.lo x1.hi | exact congrArg _ (gtIT x0.lo x1.hi) | (rw [gtIT x0.lo x1.hi]; done) | (rw [gtIT x0.lo x1.hi]; rfl))) ?_
 simp only [sA, sB]
 refine lm 3 17 rfl rfl rfl rfl ?_
 simp only [sA, sB]
 cases h1 : (gtI x0.lo x1.hi)
 ·replace h1 := hid h1
  refine lv 4 (.int .i64 (ti (x0.lo))) rfl rfl (by intro x hx; go_simp; all_goals exact rfl) ?_
  simp only [sA, sB]
  refine lv 5 (.int .i64 (ti (x1.hi))) rfl rfl (by intro x hx; go_simp; all_goals exact rfl) ?_
  simp only [sA, sB]
  refine lv 6 (.bool ((x0.lo == x1.hi))) rfl rfl (by intro x hx; go_simp; (first | done | exact eqIT x0.lo x1.hi | exact congrArg _ (eqIT x0.lo x1.hi) | (rw [eqIT x0.lo x1.hi]; done) | (rw [eqIT x0.lo x1.hi]; rfl))) ?_
  simp only [sA, sB]
  refine lv 7 (.bool ((x0.lo == x1.hi))) rfl rfl (by intro x hx; go_simp; all_goals exact rfl) ?_
  simp only [sA, sB]
  cases h2 : ((x0.lo == x1.hi))
  ·replace h2 := hid h2
   refine lin_no (i := 8) rfl rfl (by kernel_rfl) ?_
   simp only [sA, sB]
   refine lin_no (i := 9) rfl rfl (by kernel_rfl) ?_
   simp only [sA, sB]
   refine lv 10 (.bool false) rfl rfl (by intro x hx; go_simp; all_goals exact rfl) ?_
   simp only [sA, sB]
   refine lv 11 (.bool false) rfl rfl (by intro x hx; go_simp; all_goals exact rfl) ?_
   simp only [sA, sB]
   clear HS
   refine ld fun W2 HS => ?_
   go_upto_region 4 with fail
   refine lnb HS.out rfl ?_
   refine lv 0 (.pointer (some ⟨w.heap.size, 1, none⟩)) rfl rfl (by intro x hx; go_simp; all_goals exact rfl) ?_
   simp only [sA, sB]
   refine lv 1 (.int .i64 (ti (x0.hi))) rfl rfl (by intro x hx; have f0 := hx.load 0 1 rfl rfl; go_simp; all_goals exact rfl) ?_
   simp only [sA, sB]
   refine lm 2 10 rfl rfl rfl rfl ?_
   simp only [sA, sB]
   refine lm 3 2 rfl rfl rfl rfl ?_
   simp only [sA, sB]
   refine lv 4 (.int .i64 (ti (x1.hi - x2))) rfl rfl (by intro x hx; go_simp; (first | done | exact subIT x1.hi x2 | exact congrArg _ (subIT x1.hi x2) | (rw [subIT x1.hi x2]; done) | (rw [subIT x1.hi x2]; rfl))) ?_
   simp only [sA, sB]
   refine lv 5 (.int .i64 (ti (minI x0.hi (x1.hi - x2)))) rfl rfl (by intro x hx; go_simp; (first | done | exact minIT x0.hi (x1.hi - x2))) ?_
   simp only [sA, sB]
   refine lv 6 (.pointer (some ⟨w.heap.size, 1, none⟩)) rfl rfl (by intro x hx; go_simp; all_goals exact rfl) ?_
   simp only [sA, sB]
   refine ls 7 0 1 [.int .i64 (ti (minI x0.hi (x1.hi - x2)))] rfl rfl rfl (by intro x hx; obtain ⟨_, z0, q0⟩ := hx.at1 0 1 rfl; go_simp; all_goals rfl) ?_
   simp only [Blk.putC, setM, sA, sB]
   clear HS
   refine ld fun W3 HS => ?_
   go_upto_region 5 with fail
   refine lnb HS.out rfl ?_
   refine lv 0 (.pointer (some ⟨w.heap.size + 1, 0, none⟩)) rfl rfl (by intro x hx; go_simp; all_goals exact rfl) ?_
   simp only [sA, sB]
   refine lv 1 (.int .i64 (ti (x1.lo))) rfl rfl (by intro x hx; have f0 := hx.load 1 0 rfl rfl; go_simp; all_goals exact rfl) ?_
   simp only [sA, sB]
   refine lm 2 9 rfl rfl rfl rfl ?_
   simp only [sA, sB]
   refine lm 3 2 rfl rfl rfl rfl ?_
   simp only [sA, sB]
   refine lv 4 (.int .i64 (ti (x0.lo + x2))) rfl rfl (by intro x hx; go_simp; (first | done | exact addIT x0.lo x2 | exact congrArg _ (addIT x0.lo x2) | (rw [addIT x0.lo x2]; done) | (rw [addIT x0.lo x2]; rfl))) ?_
   simp only [sA, sB]
   refine lv 5 (.int .i64 (ti (maxI x1.lo (x0.lo + x2)))) rfl rfl (by intro x hx; go_simp; (first | done | exact maxIT x1.lo (x0.lo + x2))) ?_
   simp only [sA, sB]
   refine lv 6 (.pointer (some ⟨w.heap.size + 1, 0, none⟩)) rfl rfl (by intro x hx; go_simp; all_goals exact rfl) ?_
   simp only [sA, sB]
   refine ls 7 1 0 [.int .i64 (ti (maxI x1.lo (x0.lo + x2)))] rfl rfl rfl (by intro x hx; obtain ⟨_, z0, q0⟩ := hx.at1 1 0 rfl; go_simp; all_goals rfl) ?_
   simp only [Blk.putC, setM, sA, sB]
   clear HS
   refine ld fun W4 HS => ?_
   go_upto_region 6 with fail
   refine upb 5 (((HS.out.drew.forget 2 0 2 rfl).forget 3 0 2 rfl)) rfl ?_
   simp only [Blk.dropC, noneM, sA, sB]
   refine tv 0 (vI (P.mk x0.lo (minI x0.hi (x1.hi - x2)))) rfl rfl (by intro x hx; obtain ⟨f0, f1⟩ := hx.two 0 0 rfl rfl; go_simp; all_goals exact rfl) ?_
   simp only [sA, sB, vI]
   refine tv 1 (vI (P.mk (maxI x1.lo (x0.lo + x2)) x1.hi)) rfl rfl (by intro x hx; obtain ⟨f0, f1⟩ := hx.two 1 0 rfl rfl; go_simp; all_goals exact rfl) ?_
   simp only [sA, sB, vI]
   refine ts 2 2 0 (cI (P.mk x0.lo (minI x0.hi (x1.hi - x2)))) rfl rfl rfl (by intro x hx; obtain ⟨⟨_, z0, q0⟩, ⟨_, z1, q1⟩⟩ := hx.at2 2 0 rfl; go_simp; all_goals rfl) ?_
   simp only [Blk.putC, setM, cI, sA, sB]
   refine ts 3 3 0 (cI (P.mk (maxI x1.lo (x0.lo + x2)) x1.hi)) rfl rfl rfl (by intro x hx; obtain ⟨⟨_, z0, q0⟩, ⟨_, z1, q1⟩⟩ := hx.at2 3 0 rfl; go_simp; all_goals rfl) ?_
   simp only [Blk.putC, setM, cI, sA, sB]
   refine tv 4 (.bool true) rfl rfl (by intro x hx; go_simp; all_goals exact rfl) ?_
   simp only [sA, sB]
   clear HS
   refine td fun W5 HS => ?_
   go_wp2
   obtain ⟨r0, r1⟩ := HS.out.two 2 0 rfl rfl
   obtain ⟨r2, r3⟩ := HS.out.two 3 0 rfl rfl
   have HF : scalar_ordered_int64 x0 x1 x2 = (P.mk x0.lo (minI x0.hi (x1.hi - x2)), P.mk (maxI x1.lo (x0.lo + x2)) x1.hi, true) := by
     unfold scalar_ordered_int64
     rw [cond_f h1.out, cond_f h2.out]
   exact bodyPost_ret (v := .tuple #[vI (P.mk x0.lo (minI x0.hi (x1.hi - x2))), vI (P.mk (maxI x1.lo (x0.lo + x2)) x1.hi), .bool true]) (by simp [results, Tryz.results127, go_sem, r0, r1, r2, r3, vI]) rfl ⟨(by first | (rw [HF]; done) | (rw [HF]; rfl)), HS.out.below⟩
  ·replace h2 := hid h2
   refine lv 8 (.int .i64 (ti (x2))) rfl rfl (by intro x hx; go_simp; all_goals exact rfl) ?_
   simp only [sA, sB]
   refine lv 9 (.bool (gtI x2 0#64)) rfl rfl (by intro x hx; go_simp; (first | done | exact gtIT x2 0#64 | exact congrArg _ (gtIT x2 0#64) | (rw [gtIT x2 0#64]; done) | (rw [gtIT x2 0#64]; rfl))) ?_
   simp only [sA, sB]
   refine lv 10 (.bool (gtI x2 0#64)) rfl rfl (by intro x hx; go_simp; all_goals exact rfl) ?_
   simp only [sA, sB]
   refine lv 11 (.bool (gtI x2 0#64)) rfl rfl (by intro x hx; go_simp; all_goals exact rfl) ?_
   simp only [sA, sB]
   clear HS
   refine ld fun W2 HS => ?_
   cases h3 : (gtI x2 0#64)
   ·replace h3 := hid h3
    go_upto_region 4 with fail
    refine lnb HS.out rfl ?_
    refine lv 0 (.pointer (some ⟨w.heap.size, 1, none⟩)) rfl rfl (by intro x hx; go_simp; all_goals exact rfl) ?_
    simp only [sA, sB]
    refine lv 1 (.int .i64 (ti (x0.hi))) rfl rfl (by intro x hx; have f0 := hx.load 0 1 rfl rfl; go_simp; all_goals exact rfl) ?_
    simp only [sA, sB]
    refine lm 2 10 rfl rfl rfl rfl ?_
    simp only [sA, sB]
    refine lm 3 2 rfl rfl rfl rfl ?_
    simp only [sA, sB]
    refine lv 4 (.int .i64 (ti (x1.hi - x2))) rfl rfl (by intro x hx; go_simp; (first | done | exact subIT x1.hi x2 | exact congrArg _ (subIT x1.hi x2) | (rw [subIT x1.hi x2]; done) | (rw [subIT x1.hi x2]; rfl))) ?_
    simp only [sA, sB]
    refine lv 5 (.int .i64 (ti (minI x0.hi (x1.hi - x2)))) rfl rfl (by intro x hx; go_simp; (first | done | exact minIT x0.hi (x1.hi - x2))) ?_
    simp only [sA, sB]
    refine lv 6 (.pointer (some ⟨w.heap.size, 1, none⟩)) rfl rfl (by intro x hx; go_simp; all_goals exact rfl) ?_
    simp only [sA, sB]
    refine ls 7 0 1 [.int .i64 (ti (minI x0.hi (x1.hi - x2)))] rfl rfl rfl (by intro x hx; obtain ⟨_, z0, q0⟩ := hx.at1 0 1 rfl; go_simp; all_goals rfl) ?_
    simp only [Blk.putC, setM, sA, sB]
    clear HS
    refine ld fun W3 HS => ?_
    go_upto_region 5 with fail
    refine lnb HS.out rfl ?_
    refine lv 0 (.pointer (some ⟨w.heap.size + 1, 0, none⟩)) rfl rfl (by intro x hx; go_simp; all_goals exact rfl) ?_
    simp only [sA, sB]
    refine lv 1 (.int .i64 (ti (x1.lo))) rfl rfl (by intro x hx; have f0 := hx.load 1 0 rfl rfl; go_simp; all_goals exact rfl) ?_
    simp only [sA, sB]
    refine lm 2 9 rfl rfl rfl rfl ?_
    simp only [sA, sB]
    refine lm 3 2 rfl rfl rfl rfl ?_
    simp only [sA, sB]
    refine lv 4 (.int .i64 (ti (x0.lo + x2))) rfl rfl (by intro x hx; go_simp; (first | done | exact addIT x0.lo x2 | exact congrArg _ (addIT x0.lo x2) | (rw [addIT x0.lo x2]; done) | (rw [addIT x0.lo x2]; rfl))) ?_
    simp only [sA, sB]
    refine lv 5 (.int .i64 (ti (maxI x1.lo (x0.lo + x2)))) rfl rfl (by intro x hx; go_simp; (first | done | exact maxIT x1.lo (x0.lo + x2))) ?_
    simp only [sA, sB]
    refine lv 6 (.pointer (some ⟨w.heap.size + 1, 0, none⟩)) rfl rfl (by intro x hx; go_simp; all_goals exact rfl) ?_
    simp only [sA, sB]
    refine ls 7 1 0 [.int .i64 (ti (maxI x1.lo (x0.lo + x2)))] rfl rfl rfl (by intro x hx; obtain ⟨_, z0, q0⟩ := hx.at1 1 0 rfl; go_simp; all_goals rfl) ?_
    simp only [Blk.putC, setM, sA, sB]
    clear HS
    refine ld fun W4 HS => ?_
    go_upto_region 6 with fail
    refine upb 5 (((HS.out.drew.forget 2 0 2 rfl).forget 3 0 2 rfl)) rfl ?_
    simp only [Blk.dropC, noneM, sA, sB]
    refine tv 0 (vI (P.mk x0.lo (minI x0.hi (x1.hi - x2)))) rfl rfl (by intro x hx; obtain ⟨f0, f1⟩ := hx.two 0 0 rfl rfl; go_simp; all_goals exact rfl) ?_
    simp only [sA, sB, vI]
    refine tv 1 (vI (P.mk (maxI x1.lo (x0.lo + x2)) x1.hi)) rfl rfl (by intro x hx; obtain ⟨f0, f1⟩ := hx.two 1 0 rfl rfl; go_simp; all_goals exact rfl) ?_
    simp only [sA, sB, vI]
    refine ts 2 2 0 (cI (P.mk x0.lo (minI x0.hi (x1.hi - x2)))) rfl rfl rfl (by intro x hx; obtain ⟨⟨_, z0, q0⟩, ⟨_, z1, q1⟩⟩ := hx.at2 2 0 rfl; go_simp; all_goals rfl) ?_
    simp only [Blk.putC, setM, cI, sA, sB]
    refine ts 3 3 0 (cI (P.mk (maxI x1.lo (x0.lo + x2)) x1.hi)) rfl rfl rfl (by intro x hx; obtain ⟨⟨_, z0, q0⟩, ⟨_, z1, q1⟩⟩ := hx.at2 3 0 rfl; go_simp; all_goals rfl) ?_
    simp only [Blk.putC, setM, cI, sA, sB]
    refine tv 4 (.bool true) rfl rfl (by intro x hx; go_simp; all_goals exact rfl) ?_
    simp only [sA, sB]
    clear HS
    refine td fun W5 HS => ?_
    go_wp2
    obtain ⟨r0, r1⟩ := HS.out.two 2 0 rfl rfl
    obtain ⟨r2, r3⟩ := HS.out.two 3 0 rfl rfl
    have HF : scalar_ordered_int64 x0 x1 x2 = (P.mk x0.lo (minI x0.hi (x1.hi - x2)), P.mk (maxI x1.lo (x0.lo + x2)) x1.hi, true) := by
      unfold scalar_ordered_int64
      rw [cond_f h1.out, cond_t h2.out, cond_f h3.out]
    exact bodyPost_ret (v := .tuple #[vI (P.mk x0.lo (minI x0.hi (x1.hi - x2))), vI (P.mk (maxI x1.lo (x0.lo + x2)) x1.hi), .bool true]) (by simp [results, Tryz.results127, go_sem, r0, r1, r2, r3, vI]) rfl ⟨(by first | (rw [HF]; done) | (rw [HF]; rfl)), HS.out.below⟩
   ·replace h3 := hid h3
    go_upto_region 3 with fail
    refine lnb HS.out rfl ?_
    refine lv 0 (.agg #[.int .i64 0, .int .i64 0]) rfl rfl (by intro x hx; go_simp; all_goals exact rfl) ?_
    simp only [sA, sB]
    refine lv 1 (.agg #[.int .i64 0, .int .i64 0]) rfl rfl (by intro x hx; go_simp; all_goals exact rfl) ?_
    simp only [sA, sB]
    refine ls 2 2 0 [.int .i64 0, .int .i64 0] rfl rfl rfl (by intro x hx; obtain ⟨⟨_, z0, q0⟩, ⟨_, z1, q1⟩⟩ := hx.at2 2 0 rfl; go_simp; all_goals rfl) ?_
    simp only [Blk.putC, setM, sA, sB]
    refine ls 3 3 0 [.int .i64 0, .int .i64 0] rfl rfl rfl (by intro x hx; obtain ⟨⟨_, z0, q0⟩, ⟨_, z1, q1⟩⟩ := hx.at2 3 0 rfl; go_simp; all_goals rfl) ?_
    simp only [Blk.putC, setM, sA, sB]
    refine lv 4 (.bool false) rfl rfl (by intro x hx; go_simp; all_goals exact rfl) ?_
    simp only [sA, sB]
    clear HS
    refine ld fun W3 HS => ?_
    go_wp2
    obtain ⟨r0, r1⟩ := HS.out.two 2 0 rfl rfl
    obtain ⟨r2, r3⟩ := HS.out.two 3 0 rfl rfl
    have HF : scalar_ordered_int64 x0 x1 x2 = (P.mk 0#64 0#64, P.mk 0#64 0#64, false) := by
      unfold scalar_ordered_int64
      rw [cond_f h1.out, cond_t h2.out, cond_t h3.out]
    exact bodyPost_ret (v := .tuple #[.agg #[.int .i64 0, .int .i64 0], .agg #[.int .i64 0, .int .i64 0], .bool false]) (by simp [results, Tryz.results127, go_sem, r0, r1, r2, r3]) rfl ⟨(by first | (rw [HF]; done) | (rw [HF]; rfl)), HS.out.below⟩
 ·replace h1 := hid h1
  refine lin_no (i := 4) rfl rfl (by kernel_rfl) ?_
  simp only [sA, sB]
  refine lin_no (i := 5) rfl rfl (by kernel_rfl) ?_
  simp only [sA, sB]
  refine lin_no (i := 6) rfl rfl (by kernel_rfl) ?_
  simp only [sA, sB]
  refine lin_no (i := 7) rfl rfl (by kernel_rfl) ?_
  simp only [sA, sB]
  refine lin_no (i := 8) rfl rfl (by kernel_rfl) ?_
  simp only [sA, sB]
  refine lin_no (i := 9) rfl rfl (by kernel_rfl) ?_
  simp only [sA, sB]
  refine lin_no (i := 10) rfl rfl (by kernel_rfl) ?_
  simp only [sA, sB]
  refine lv 11 (.bool true) rfl rfl (by intro x hx; go_simp; all_goals exact rfl) ?_
  simp only [sA, sB]
  clear HS
  refine ld fun W2 HS => ?_
  go_upto_region 3 with fail
  refine lnb HS.out rfl ?_
  refine lv 0 (.agg #[.int .i64 0, .int .i64 0]) rfl rfl (by intro x hx; go_simp; all_goals exact rfl) ?_
  simp only [sA, sB]
  refine lv 1 (.agg #[.int .i64 0, .int .i64 0]) rfl rfl (by intro x hx; go_simp; all_goals exact rfl) ?_
  simp only [sA, sB]
  refine ls 2 2 0 [.int .i64 0, .int .i64 0] rfl rfl rfl (by intro x hx; obtain ⟨⟨_, z0, q0⟩, ⟨_, z1, q1⟩⟩ := hx.at2 2 0 rfl; go_simp; all_goals rfl) ?_
  simp only [Blk.putC, setM, sA, sB]
  refine ls 3 3 0 [.int .i64 0, .int .i64 0] rfl rfl rfl (by intro x hx; obtain ⟨⟨_, z0, q0⟩, ⟨_, z1, q1⟩⟩ := hx.at2 3 0 rfl; go_simp; all_goals rfl) ?_
  simp only [Blk.putC, setM, sA, sB]
  refine lv 4 (.bool false) rfl rfl (by intro x hx; go_simp; all_goals exact rfl) ?_
  simp only [sA, sB]
  clear HS
  refine ld fun W3 HS => ?_
  go_wp2
  obtain ⟨r0, r1⟩ := HS.out.two 2 0 rfl rfl
  obtain ⟨r2, r3⟩ := HS.out.two 3 0 rfl rfl
  have HF : scalar_ordered_int64 x0 x1 x2 = (P.mk 0#64 0#64, P.mk 0#64 0#64, false) := by
    unfold scalar_ordered_int64
    rw [cond_t h1.out]
  exact bodyPost_ret (v := .tuple #[.agg #[.int .i64 0, .int .i64 0], .agg #[.int .i64 0, .int .i64 0], .bool false]) (by simp [results, Tryz.results127, go_sem, r0, r1, r2, r3]) rfl ⟨(by first | (rw [HF]; done) | (rw [HF]; rfl)), HS.out.below⟩
end Go.Proofs.YtmcapfbkedfdkaaGreatDoor.Sp
