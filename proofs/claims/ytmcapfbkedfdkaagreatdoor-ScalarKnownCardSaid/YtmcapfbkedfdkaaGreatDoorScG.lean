/-
  The contracts of the parts of Branch.
-/
import Derived.Deep.DeepCutAuto
import Derived.Test.YtmcapfbkedfdkaaGreatDoorScD
namespace Go.Proofs.YtmcapfbkedfdkaaGreatDoor.Sp
set_option maxRecDepth 100000
set_option maxHeartbeats 4000000
open Go.RowKit Go.Proofs.YtmcapfbkedfdkaaGreatDoor.Num Go.Proofs.YtmcapfbkedfdkaaGreatDoor.Up
def scalar_short (x0 : BitVec 64) (x1 : BitVec 64) (x2 : BitVec 64)  : Bool :=
 bif (x0 == 96#64) then (ltU (maxU x1 x2) 2147483648#64) else (bif (x0 == 112#64) then (ltU (maxU x1 x2) 2147483648#64) else (bif (x0 == 192#64) then (ltU (maxU x1 x2) 2147483648#64) else (bif (x0 == 208#64) then (ltU (maxU x1 x2) 2147483648#64) else (ltU (maxU x1 x2) 4294967296#64))))
theorem scalar_short_any (x0 : BitVec 64) (x1 : BitVec 64) (x2 : BitVec 64)   (w : World) :
   Calls Tryz.prog 16 #[.int .i64 (ti (x0)), .int .u64 (tn (x1)), .int .u64 (tn (x2))] w fun e w' => e = .returned (.bool (scalar_short x0 x1 x2)) ∧ Below w.heap.size w w' := by
 go_enter Tryz.func16, Tryz.ntmps16
 have HS : Hid (St w [] _) := hid (st_nil w)
 go_upto_region 1 with fail
 refine lnb HS.out rfl ?_
 refine lm 0 0 rfl rfl rfl rfl ?_
 simp only [sA, sB]
 clear HS
 refine ld fun W1 HS => ?_
 go_upto_region 2 with fail
 refine lnb HS.out rfl ?_
 refine lv 0 (.bool ((x0 == 96#64))) rfl rfl (by intro x hx; go_simp; (first | done | exact eqIT x0 96#64 | exact congrArg _ (eqIT x0 96#64) | (rw [eqIT x0 96#64]; done) | (rw [eqIT x0 96#64]; rfl))) ?_
 simp only [sA, sB]
 refine la 1 9 rfl rfl rfl rfl ?_
 simp only [sA, sB]
 clear HS
 refine ld fun W2 HS => ?_
 cases h1 : ((x0 == 96#64))
 ·replace h1 := hid h1
  go_upto_region 3 with fail
  refine lnb HS.out rfl ?_
  refine lv 0 (.bool ((x0 == 112#64))) rfl rfl (by intro x hx; go_simp; (first | done | exact eqIT x0 112#64 | exact congrArg _ (eqIT x0 112#64) | (rw [eqIT x0 112#64]; done) | (rw [eqIT x0 112#64]; rfl))) ?_
  simp only [sA, sB]
  refine la 1 10 rfl rfl rfl rfl ?_
  simp only [sA, sB]
  clear HS
  refine ld fun W3 HS => ?_
  cases h2 : ((x0 == 112#64))
  ·replace h2 := hid h2
   go_upto_region 4 with fail
   refine lnb HS.out rfl ?_
   refine lv 0 (.bool ((x0 == 192#64))) rfl rfl (by intro x hx; go_simp; (first | done | exact eqIT x0 192#64 | exact congrArg _ (eqIT x0 192#64) | (rw [eqIT x0 192#64]; done) | (rw [eqIT x0 192#64]; rfl))) ?_
   simp only [sA, sB]
   refine la 1 11 rfl rfl rfl rfl ?_
   simp only [sA, sB]
   clear HS
   refine ld fun W4 HS => ?_
   cases h3 : ((x0 == 192#64))
   ·replace h3 := hid h3
    go_upto_region 5 with fail
    refine lnb HS.out rfl ?_
    refine lv 0 (.bool ((x0 == 208#64))) rfl rfl (by intro x hx; go_simp; (first | done | exact eqIT x0 208#64 | exact congrArg _ (eqIT x0 208#64) | (rw [eqIT x0 208#64]; done) | (rw [eqIT x0 208#64]; rfl))) ?_
    simp only [sA, sB]
    refine la 1 12 rfl rfl rfl rfl ?_
    simp only [sA, sB]
    clear HS
    refine ld fun W5 HS => ?_
    cases h4 : ((x0 == 208#64))
    ·replace h4 := hid h4
     go_upto_region 7 with fail
     refine lnb HS.out rfl ?_
     refine lm 0 1 rfl rfl rfl rfl ?_
     simp only [sA, sB]
     refine lm 1 2 rfl rfl rfl rfl ?_
     simp only [sA, sB]
     refine lv 2 (.int .u64 (tn (maxU x1 x2))) rfl rfl (by intro x hx; go_simp; (first | done | exact maxUT x1 x2)) ?_
     simp only [sA, sB]
     refine lv 3 (.bool (ltU (maxU x1 x2) 4294967296#64)) rfl rfl (by intro x hx; go_simp; (first | done | exact ltUT (maxU x1 x2) 4294967296#64 | exact congrArg _ (ltUT (maxU x1 x2) 4294967296#64) | (rw [ltUT (maxU x1 x2) 4294967296#64]; done) | (rw [ltUT (maxU x1 x2) 4294967296#64]; rfl))) ?_
     simp only [sA, sB]
     refine la 4 20 rfl rfl rfl rfl ?_
     simp only [sA, sB]
     clear HS
     refine ld fun W6 HS => ?_
     go_wp2
     have HF : scalar_short x0 x1 x2 = ltU (maxU x1 x2) 4294967296#64 := by
       unfold scalar_short
       rw [cond_f h1.out, cond_f h2.out, cond_f h3.out, cond_f h4.out]
     exact bodyPost_ret (v := .bool (ltU (maxU x1 x2) 4294967296#64)) (by simp [results, Tryz.results16, go_sem]) rfl ⟨(by first | (rw [HF]; done) | (rw [HF]; rfl)), HS.out.below⟩
    ·replace h4 := hid h4
     go_upto_region 6 with fail
     refine lnb HS.out rfl ?_
     refine lm 0 1 rfl rfl rfl rfl ?_
     simp only [sA, sB]
     refine lm 1 2 rfl rfl rfl rfl ?_
     simp only [sA, sB]
     refine lv 2 (.int .u64 (tn (maxU x1 x2))) rfl rfl (by intro x hx; go_simp; (first | done | exact maxUT x1 x2)) ?_
     simp only [sA, sB]
     refine lv 3 (.bool (ltU (maxU x1 x2) 2147483648#64)) rfl rfl (by intro x hx; go_simp; (first | done | exact ltUT (maxU x1 x2) 2147483648#64 | exact congrArg _ (ltUT (maxU x1 x2) 2147483648#64) | (rw [ltUT (maxU x1 x2) 2147483648#64]; done) | (rw [ltUT (maxU x1 x2) 2147483648#64]; rfl))) ?_
     simp only [sA, sB]
     refine la 4 16 rfl rfl rfl rfl ?_
     simp only [sA, sB]
     clear HS
     refine ld fun W6 HS => ?_
     go_wp2
     have HF : scalar_short x0 x1 x2 = ltU (maxU x1 x2) 2147483648#64 := by
       unfold scalar_short
       rw [cond_f h1.out, cond_f h2.out, cond_f h3.out, cond_t h4.out]
     exact bodyPost_ret (v := .bool (ltU (maxU x1 x2) 2147483648#64)) (by simp [results, Tryz.results16, go_sem]) rfl ⟨(by first | (rw [HF]; done) | (rw [HF]; rfl)), HS.out.below⟩
   ·replace h3 := hid h3
    go_upto_region 6 with fail
    refine lnb HS.out rfl ?_
    refine lm 0 1 rfl rfl rfl rfl ?_
    simp only [sA, sB]
    refine lm 1 2 rfl rfl rfl rfl ?_
    simp only [sA, sB]
    refine lv 2 (.int .u64 (tn (maxU x1 x2))) rfl rfl (by intro x hx; go_simp; (first | done | exact maxUT x1 x2)) ?_
    simp only [sA, sB]
    refine lv 3 (.bool (ltU (maxU x1 x2) 2147483648#64)) rfl rfl (by intro x hx; go_simp; (first | done | exact ltUT (maxU x1 x2) 2147483648#64 | exact congrArg _ (ltUT (maxU x1 x2) 2147483648#64) | (rw [ltUT (maxU x1 x2) 2147483648#64]; done) | (rw [ltUT (maxU x1 x2) 2147483648#64]; rfl))) ?_
    simp only [sA, sB]
    refine la 4 16 rfl rfl rfl rfl ?_
    simp only [sA, sB]
    clear HS
    refine ld fun W5 HS => ?_
    go_wp2
    have HF : scalar_short x0 x1 x2 = ltU (maxU x1 x2) 2147483648#64 := by
      unfold scalar_short
      rw [cond_f h1.out, cond_f h2.out, cond_t h3.out]
    exact bodyPost_ret (v := .bool (ltU (maxU x1 x2) 2147483648#64)) (by simp [results, Tryz.results16, go_sem]) rfl ⟨(by first | (rw [HF]; done) | (rw [HF]; rfl)), HS.out.below⟩
  ·replace h2 := hid h2
   go_upto_region 6 with fail
   refine lnb HS.out rfl ?_
   refine lm 0 1 rfl rfl rfl rfl ?_
   simp only [sA, sB]
   refine lm 1 2 rfl rfl rfl rfl ?_
   simp only [sA, sB]
   refine lv 2 (.int .u64 (tn (maxU x1 x2))) rfl rfl (by intro x hx; go_simp; (first | done | exact maxUT x1 x2)) ?_
   simp only [sA, sB]
   refine lv 3 (.bool (ltU (maxU x1 x2) 2147483648#64)) rfl rfl (by intro x hx; go_simp; (first | done | exact ltUT (maxU x1 x2) 2147483648#64 | exact congrArg _ (ltUT (maxU x1 x2) 2147483648#64) | (rw [ltUT (maxU x1 x2) 2147483648#64]; done) | (rw [ltUT (maxU x1 x2) 2147483648#64]; rfl))) ?_
   simp only [sA, sB]
   refine la 4 16 rfl rfl rfl rfl ?_
   simp only [sA, sB]
   clear HS
   refine ld fun W4 HS => ?_
   go_wp2
   have HF : scalar_short x0 x1 x2 = ltU (maxU x1 x2) 2147483648#64 := by
     unfold scalar_short
     rw [cond_f h1.out, cond_t h2.out]
   exact bodyPost_ret (v := .bool (ltU (maxU x1 x2) 2147483648#64)) (by simp [results, Tryz.results16, go_sem]) rfl ⟨(by first | (rw [HF]; done) | (rw [HF]; rfl)), HS.out.below⟩
 ·replace h1 := hid h1
  go_upto_region 6 with fail
  refine lnb HS.out rfl ?_
  refine lm 0 1 rfl rfl rfl rfl ?_
  simp only [sA, sB]
  refine lm 1 2 rfl rfl rfl rfl ?_
  simp only [sA, sB]
  refine lv 2 (.int .u64 (tn (maxU x1 x2))) rfl rfl (by intro x hx; go_simp; (first | done | exact maxUT x1 x2)) ?_
  simp only [sA, sB]
  refine lv 3 (.bool (ltU (maxU x1 x2) 2147483648#64)) rfl rfl (by intro x hx; go_simp; (first | done | exact ltUT (maxU x1 x2) 2147483648#64 | exact congrArg _ (ltUT (maxU x1 x2) 2147483648#64) | (rw [ltUT (maxU x1 x2) 2147483648#64]; done) | (rw [ltUT (maxU x1 x2) 2147483648#64]; rfl))) ?_
  simp only [sA, sB]
  refine la 4 16 rfl rfl rfl rfl ?_
  simp only [sA, sB]
  clear HS
  refine ld fun W3 HS => ?_
  go_wp2
  have HF : scalar_short x0 x1 x2 = ltU (maxU x1 x2) 2147483648#64 := by
    unfold scalar_short
    rw [cond_t h1.out]
  exact bodyPost_ret (v := .bool (ltU (maxU x1 x2) 2147483648#64)) (by simp [results, Tryz.results16, go_sem]) rfl ⟨(by first | (rw [HF]; done) | (rw [HF]; rfl)), HS.out.below⟩
def scalar_common (x0 : Sc) (x1 : Sc) (x2 : Bool)  : Sc × Sc × Bool :=
 bif x2 then ((x0, x1, (!(eqP (tnAnd x0.t x1.t) (P.mk 0#64 0#64))))) else (bif single1 x1 then ((Sc.mk ((tnMeet x0.t (P.mk 0#64 (~~~x1.t.lo))).1) x0.u x0.s, x1, (tnMeet x0.t (P.mk 0#64 (~~~x1.t.lo))).2)) else ((x0, x1, true)))
theorem scalar_common_any (x0 : Sc) (x1 : Sc) (x2 : Bool)   (w : World) :
   Calls Tryz.prog 37 #[vS x0, vS x1, .bool (x2)] w fun e w' => e = .returned (.tuple #[vS ((scalar_common x0 x1 x2).1), vS ((scalar_common x0 x1 x2).2.1), .bool ((scalar_common x0 x1 x2).2.2)]) ∧ Below w.heap.size w w' := by
 simp only [vS]
 go_enter Tryz.func37, Tryz.ntmps37
 have HS : Hid (St w [⟨w.heap.size, [some (.int .u64 (tn (x0.t.lo))), some (.int .u64 (tn (x0.t.hi))), some (.int .u64 (tn (x0.u.lo))), some (.int .u64 (tn (x0.u.hi))), some (.int .i64 (ti (x0.s.lo))), some (.int .i64 (ti (x0.s.hi)))], 31⟩, ⟨w.heap.size + 1, [some (.int .u64 (tn (x1.t.lo))), some (.int .u64 (tn (x1.t.hi))), some (.int .u64 (tn (x1.u.lo))), some (.int .u64 (tn (x1.u.hi))), some (.int .i64 (ti (x1.s.lo))), some (.int .i64 (ti (x1.s.hi)))], 31⟩, ⟨w.heap.size + 2, [some (.int .u64 0), some (.int .u64 0), some (.int .u64 0), some (.int .u64 0), some (.int .i64 0), some (.int .i64 0)], 31⟩, ⟨w.heap.size + 3, [some (.int .u64 0), some (.int .u64 0), some (.int .u64 0), some (.int .u64 0), some (.int .i64 0), some (.int .i64 0)], 31⟩] _) := hid (((((st_nil w).alloc (k := w.heap.size) rfl [.int .u64 (tn (x0.t.lo)), .int .u64 (tn (x0.t.hi)), .int .u64 (tn (x0.u.lo)), .int .u64 (tn (x0.u.hi)), .int .i64 (ti (x0.s.lo)), .int .i64 (ti (x0.s.hi))] 31).alloc (k := w.heap.size + 1) (by simp) [.int .u64 (tn (x1.t.lo)), .int .u64 (tn (x1.t.hi)), .int .u64 (tn (x1.u.lo)), .int .u64 (tn (x1.u.hi)), .int .i64 (ti (x1.s.lo)), .int .i64 (ti (x1.s.hi))] 31).alloc (k := w.heap.size + 2) (by simp) [.int .u64 0, .int .u64 0, .int .u64 0, .int .u64 0, .int .i64 0, .int .i64 0] 31).alloc (k := w.heap.size + 3) (by simp) [.int .u64 0, .int .u64 0, .int .u64 0, .int .u64 0, .int .i64 0, .int .i64 0] 31)
 go_upto_region 1 with fail
 refine lnb HS.out rfl ?_
 refine lm 0 2 rfl rfl rfl rfl ?_
 simp only [sA, sB]
 clear HS
 refine ld fun W1 HS => ?_
 cases h1 : (x2)
 ·replace h1 := hid h1
  go_upto_region 3 with fail
  refine lnb HS.out rfl ?_
  refine lv 0 (.bool true) rfl rfl (by intro x hx; go_simp; all_goals exact rfl) ?_
  simp only [sA, sB]
  clear HS
  refine ld fun W2 HS => ?_
  go_upto_region 4 with fail
  refine lnb HS.out rfl ?_
  refine lv 0 (vS x1) rfl rfl (by intro x hx; obtain ⟨f0, f1, f2, f3, f4, f5⟩ := hx.six 1 0 rfl rfl; go_simp; all_goals exact rfl) ?_
  simp only [sA, sB, vS]
  refine lin_new (i := 1) rfl rfl (by rfl) [.int .u64 (tn (x1.t.lo)), .int .u64 (tn (x1.t.hi)), .int .u64 (tn (x1.u.lo)), .int .u64 (tn (x1.u.hi)), .int .i64 (ti (x1.s.lo)), .int .i64 (ti (x1.s.hi))] 31 (fun k => .slice (some ⟨k, 0, none⟩) 1 1) [some (.int .u64 (tn (x1.t.lo))), some (.int .u64 (tn (x1.t.hi))), some (.int .u64 (tn (x1.u.lo))), some (.int .u64 (tn (x1.u.hi))), some (.int .i64 (ti (x1.s.lo))), some (.int .i64 (ti (x1.s.hi)))] (lessC_refl _) (by intro x hx; go_simp; all_goals exact rfl) (fun k1 => ?_)
  simp only [sA, sB, sC, sD]
  refine lc 2 14 #[.slice (some ⟨k1, 0, none⟩) 1 1] (.bool (single1 x1)) rfl rfl (by intro x hx; exact single1_any k1 x1 _ (hx.okat 4 rfl)) ?_
  simp only [sA, sB]
  clear HS
  refine ld fun W3 HS => ?_
  cases h2 : (single1 x1)
  ·replace h2 := hid h2
   go_upto_region 6 with fail
   refine upb 6 (((HS.out.drew.forget 2 0 6 rfl).forget 3 0 6 rfl)) rfl ?_
   simp only [Blk.dropC, noneM, sA, sB]
   refine tv 0 (vS x0) rfl rfl (by intro x hx; obtain ⟨f0, f1, f2, f3, f4, f5⟩ := hx.six 0 0 rfl rfl; go_simp; all_goals exact rfl) ?_
   simp only [sA, sB, vS]
   refine tv 1 (vS x1) rfl rfl (by intro x hx; obtain ⟨f0, f1, f2, f3, f4, f5⟩ := hx.six 1 0 rfl rfl; go_simp; all_goals exact rfl) ?_
   simp only [sA, sB, vS]
   refine tm 2 9 rfl rfl rfl rfl ?_
   simp only [sA, sB]
   refine ts 3 2 0 (cS x0) rfl rfl rfl (by intro x hx; obtain ⟨⟨_, z0, q0⟩, ⟨_, z1, q1⟩, ⟨_, z2, q2⟩, ⟨_, z3, q3⟩, ⟨_, z4, q4⟩, ⟨_, z5, q5⟩⟩ := hx.at6 2 0 rfl; go_simp; all_goals rfl) ?_
   simp only [Blk.putC, setM, cS, sA, sB]
   refine ts 4 3 0 (cS x1) rfl rfl rfl (by intro x hx; obtain ⟨⟨_, z0, q0⟩, ⟨_, z1, q1⟩, ⟨_, z2, q2⟩, ⟨_, z3, q3⟩, ⟨_, z4, q4⟩, ⟨_, z5, q5⟩⟩ := hx.at6 3 0 rfl; go_simp; all_goals rfl) ?_
   simp only [Blk.putC, setM, cS, sA, sB]
   refine ta 5 37 rfl rfl rfl rfl ?_
   simp only [sA, sB]
   clear HS
   refine td fun W4 HS => ?_
   go_wp2
   obtain ⟨r0, r1, r2, r3, r4, r5⟩ := HS.out.six 2 0 rfl rfl
   obtain ⟨r6, r7, r8, r9, r10, r11⟩ := HS.out.six 3 0 rfl rfl
   have HF : scalar_common x0 x1 x2 = (x0, x1, true) := by
     unfold scalar_common
     rw [cond_f h1.out, cond_f h2.out]
   exact bodyPost_ret (v := .tuple #[vS x0, vS x1, .bool true]) (by simp [results, Tryz.results37, go_sem, r0, r1, r2, r3, r4, r5, r6, r7, r8, r9, r10, r11, vS]) rfl ⟨(by first | (rw [HF]; done) | (rw [HF]; rfl)), HS.out.below⟩
  ·replace h2 := hid h2
   go_upto_region 5 with fail
   refine lnb HS.out rfl ?_
   refine lv 0 (.pointer (some ⟨w.heap.size, 0, none⟩)) rfl rfl (by intro x hx; go_simp; all_goals exact rfl) ?_
   simp only [sA, sB]
   refine lv 1 (vU x0.t) rfl rfl (by intro x hx; obtain ⟨f0, f1⟩ := hx.two 0 0 rfl rfl; go_simp; all_goals exact rfl) ?_
   simp only [sA, sB, vU]
   refine lv 2 (.pointer (some ⟨w.heap.size + 1, 0, none⟩)) rfl rfl (by intro x hx; go_simp; all_goals exact rfl) ?_
   simp only [sA, sB]
   refine lv 3 (.pointer (some ⟨w.heap.size + 1, 0, none⟩)) rfl rfl (by intro x hx; go_simp; all_goals exact rfl) ?_
   simp only [sA, sB]
   refine lv 4 (.int .u64 (tn (x1.t.lo))) rfl rfl (by intro x hx; have f0 := hx.load 1 0 rfl rfl; go_simp; all_goals exact rfl) ?_
   simp only [sA, sB]
   refine lv 5 (.int .u64 (tn (~~~x1.t.lo))) rfl rfl (by intro x hx; go_simp; (first | done | exact notUT x1.t.lo | exact congrArg _ (notUT x1.t.lo) | (rw [notUT x1.t.lo]; done) | (rw [notUT x1.t.lo]; rfl))) ?_
   simp only [sA, sB]
   refine lv 6 (.agg #[.int .u64 0, .int .u64 (tn (~~~x1.t.lo))]) rfl rfl (by intro x hx; go_simp; all_goals exact rfl) ?_
   simp only [sA, sB]
   refine lc 7 54 #[vU x0.t, vU (P.mk 0#64 (~~~x1.t.lo))] (.tuple #[vU ((tnMeet x0.t (P.mk 0#64 (~~~x1.t.lo))).1), .bool ((tnMeet x0.t (P.mk 0#64 (~~~x1.t.lo))).2)]) rfl rfl (by intro x hx; exact tnMeet_any x0.t (P.mk 0#64 (~~~x1.t.lo)) _) ?_
   simp only [sA, sB, vU]
   refine lm 8 31 rfl rfl rfl rfl ?_
   simp only [sA, sB]
   refine lv 9 (vU ((tnMeet x0.t (P.mk 0#64 (~~~x1.t.lo))).1)) rfl rfl (by intro x hx; go_simp; all_goals exact rfl) ?_
   simp only [sA, sB, vU]
   refine lv 10 (.bool ((tnMeet x0.t (P.mk 0#64 (~~~x1.t.lo))).2)) rfl rfl (by intro x hx; go_simp; all_goals exact rfl) ?_
   simp only [sA, sB]
   refine lv 11 (.pointer (some ⟨w.heap.size, 0, none⟩)) rfl rfl (by intro x hx; go_simp; all_goals exact rfl) ?_
   simp only [sA, sB]
   refine ls 12 0 0 (cU ((tnMeet x0.t (P.mk 0#64 (~~~x1.t.lo))).1)) rfl rfl rfl (by intro x hx; obtain ⟨⟨_, z0, q0⟩, ⟨_, z1, q1⟩⟩ := hx.at2 0 0 rfl; go_simp; all_goals rfl) ?_
   simp only [Blk.putC, setM, cU, sA, sB]
   refine la 13 33 rfl rfl rfl rfl ?_
   simp only [sA, sB]
   clear HS
   refine ld fun W4 HS => ?_
   go_upto_region 6 with fail
   refine upb 6 (((HS.out.drew.forget 2 0 6 rfl).forget 3 0 6 rfl)) rfl ?_
   simp only [Blk.dropC, noneM, sA, sB]
   refine tv 0 (vS (Sc.mk ((tnMeet x0.t (P.mk 0#64 (~~~x1.t.lo))).1) x0.u x0.s)) rfl rfl (by intro x hx; obtain ⟨f0, f1, f2, f3, f4, f5⟩ := hx.six 0 0 rfl rfl; go_simp; all_goals exact rfl) ?_
   simp only [sA, sB, vS]
   refine tv 1 (vS x1) rfl rfl (by intro x hx; obtain ⟨f0, f1, f2, f3, f4, f5⟩ := hx.six 1 0 rfl rfl; go_simp; all_goals exact rfl) ?_
   simp only [sA, sB, vS]
   refine tm 2 9 rfl rfl rfl rfl ?_
   simp only [sA, sB]
   refine ts 3 2 0 (cS (Sc.mk ((tnMeet x0.t (P.mk 0#64 (~~~x1.t.lo))).1) x0.u x0.s)) rfl rfl rfl (by intro x hx; obtain ⟨⟨_, z0, q0⟩, ⟨_, z1, q1⟩, ⟨_, z2, q2⟩, ⟨_, z3, q3⟩, ⟨_, z4, q4⟩, ⟨_, z5, q5⟩⟩ := hx.at6 2 0 rfl; go_simp; all_goals rfl) ?_
   simp only [Blk.putC, setM, cS, sA, sB]
   refine ts 4 3 0 (cS x1) rfl rfl rfl (by intro x hx; obtain ⟨⟨_, z0, q0⟩, ⟨_, z1, q1⟩, ⟨_, z2, q2⟩, ⟨_, z3, q3⟩, ⟨_, z4, q4⟩, ⟨_, z5, q5⟩⟩ := hx.at6 3 0 rfl; go_simp; all_goals rfl) ?_
   simp only [Blk.putC, setM, cS, sA, sB]
   refine ta 5 37 rfl rfl rfl rfl ?_
   simp only [sA, sB]
   clear HS
   refine td fun W5 HS => ?_
   go_wp2
   obtain ⟨r0, r1, r2, r3, r4, r5⟩ := HS.out.six 2 0 rfl rfl
   obtain ⟨r6, r7, r8, r9, r10, r11⟩ := HS.out.six 3 0 rfl rfl
   have HF : scalar_common x0 x1 x2 = (Sc.mk ((tnMeet x0.t (P.mk 0#64 (~~~x1.t.lo))).1) x0.u x0.s, x1, (tnMeet x0.t (P.mk 0#64 (~~~x1.t.lo))).2) := by
     unfold scalar_common
     rw [cond_f h1.out, cond_t h2.out]
   exact bodyPost_ret (v := .tuple #[vS (Sc.mk ((tnMeet x0.t (P.mk 0#64 (~~~x1.t.lo))).1) x0.u x0.s), vS x1, .bool ((tnMeet x0.t (P.mk 0#64 (~~~x1.t.lo))).2)]) (by simp [results, Tryz.results37, go_sem, r0, r1, r2, r3, r4, r5, r6, r7, r8, r9, r10, r11, vS]) rfl ⟨(by first | (rw [HF]; done) | (rw [HF]; rfl)), HS.out.below⟩
 ·replace h1 := hid h1
  go_upto_region 2 with fail
  refine upb 12 (((HS.out.drew.forget 2 0 6 rfl).forget 3 0 6 rfl)) rfl ?_
  simp only [Blk.dropC, noneM, sA, sB]
  refine tv 0 (vS x0) rfl rfl (by intro x hx; obtain ⟨f0, f1, f2, f3, f4, f5⟩ := hx.six 0 0 rfl rfl; go_simp; all_goals exact rfl) ?_
  simp only [sA, sB, vS]
  refine tv 1 (vS x1) rfl rfl (by intro x hx; obtain ⟨f0, f1, f2, f3, f4, f5⟩ := hx.six 1 0 rfl rfl; go_simp; all_goals exact rfl) ?_
  simp only [sA, sB, vS]
  refine tv 2 (.pointer (some ⟨w.heap.size, 0, none⟩)) rfl rfl (by intro x hx; go_simp; all_goals exact rfl) ?_
  simp only [sA, sB]
  refine tv 3 (vU x0.t) rfl rfl (by intro x hx; obtain ⟨f0, f1⟩ := hx.two 0 0 rfl rfl; go_simp; all_goals exact rfl) ?_
  simp only [sA, sB, vU]
  refine tv 4 (.pointer (some ⟨w.heap.size + 1, 0, none⟩)) rfl rfl (by intro x hx; go_simp; all_goals exact rfl) ?_
  simp only [sA, sB]
  refine tv 5 (vU x1.t) rfl rfl (by intro x hx; obtain ⟨f0, f1⟩ := hx.two 1 0 rfl rfl; go_simp; all_goals exact rfl) ?_
  simp only [sA, sB, vU]
  refine tc 6 67 #[vU x0.t, vU x1.t] (vU (tnAnd x0.t x1.t)) rfl rfl (by intro x hx; exact tnAnd_any x0.t x1.t _) ?_
  simp only [sA, sB, vU]
  refine tc 7 19 #[.int .u64 (tn (0#64))] (vU (P.mk 0#64 0#64)) rfl rfl (by intro x hx; exact tnOf_any 0#64 _) ?_
  simp only [sA, sB, vU]
  refine tv 8 (.bool ((!(eqP (tnAnd x0.t x1.t) (P.mk 0#64 0#64))))) rfl rfl (by intro x hx; go_simp; (first | done | exact eqPT (fun b => Result.ok (Next.value (Value.bool (!b))) x) ((tnAnd x0.t x1.t).lo) ((tnAnd x0.t x1.t).hi) 0#64 0#64)) ?_
  simp only [sA, sB]
  refine ts 9 2 0 (cS x0) rfl rfl rfl (by intro x hx; obtain ⟨⟨_, z0, q0⟩, ⟨_, z1, q1⟩, ⟨_, z2, q2⟩, ⟨_, z3, q3⟩, ⟨_, z4, q4⟩, ⟨_, z5, q5⟩⟩ := hx.at6 2 0 rfl; go_simp; all_goals rfl) ?_
  simp only [Blk.putC, setM, cS, sA, sB]
  refine ts 10 3 0 (cS x1) rfl rfl rfl (by intro x hx; obtain ⟨⟨_, z0, q0⟩, ⟨_, z1, q1⟩, ⟨_, z2, q2⟩, ⟨_, z3, q3⟩, ⟨_, z4, q4⟩, ⟨_, z5, q5⟩⟩ := hx.at6 3 0 rfl; go_simp; all_goals rfl) ?_
  simp only [Blk.putC, setM, cS, sA, sB]
  refine ta 11 19 rfl rfl rfl rfl ?_
  simp only [sA, sB]
  clear HS
  refine td fun W2 HS => ?_
  go_wp2
  obtain ⟨r0, r1, r2, r3, r4, r5⟩ := HS.out.six 2 0 rfl rfl
  obtain ⟨r6, r7, r8, r9, r10, r11⟩ := HS.out.six 3 0 rfl rfl
  have HF : scalar_common x0 x1 x2 = (x0, x1, (!(eqP (tnAnd x0.t x1.t) (P.mk 0#64 0#64)))) := by
    unfold scalar_common
    rw [cond_t h1.out]
  exact bodyPost_ret (v := .tuple #[vS x0, vS x1, .bool ((!(eqP (tnAnd x0.t x1.t) (P.mk 0#64 0#64))))]) (by simp [results, Tryz.results37, go_sem, r0, r1, r2, r3, r4, r5, r6, r7, r8, r9, r10, r11, vS]) rfl ⟨(by first | (rw [HF]; done) | (rw [HF]; rfl)), HS.out.below⟩
def scalar_same (x0 : Sc) (x1 : Sc)  : Sc × Sc × Bool :=
 bif (tnMeet x0.t x1.t).2 then (bif (span_meet_uint64 x0.u x1.u).2 then ((Sc.mk ((tnMeet x0.t x1.t).1) ((span_meet_uint64 x0.u x1.u).1) ((span_meet_int64 x0.s x1.s).1), Sc.mk ((tnMeet x0.t x1.t).1) ((span_meet_uint64 x0.u x1.u).1) ((span_meet_int64 x0.s x1.s).1), (span_meet_int64 x0.s x1.s).2)) else ((Sc.mk ((tnMeet x0.t x1.t).1) ((span_meet_uint64 x0.u x1.u).1) ((span_meet_int64 x0.s x1.s).1), Sc.mk ((tnMeet x0.t x1.t).1) ((span_meet_uint64 x0.u x1.u).1) ((span_meet_int64 x0.s x1.s).1), false))) else ((Sc.mk ((tnMeet x0.t x1.t).1) ((span_meet_uint64 x0.u x1.u).1) ((span_meet_int64 x0.s x1.s).1), Sc.mk ((tnMeet x0.t x1.t).1) ((span_meet_uint64 x0.u x1.u).1) ((span_meet_int64 x0.s x1.s).1), false))
theorem scalar_same_any (x0 : Sc) (x1 : Sc)   (w : World) :
   Calls Tryz.prog 39 #[vS x0, vS x1] w fun e w' => e = .returned (.tuple #[vS ((scalar_same x0 x1).1), vS ((scalar_same x0 x1).2.1), .bool ((scalar_same x0 x1).2.2)]) ∧ Below w.heap.size w w' := by
 simp only [vS]
 go_enter Tryz.func39, Tryz.ntmps39
 have HS : Hid (St w [⟨w.heap.size, [some (.int .u64 (tn (x0.t.lo))), some (.int .u64 (tn (x0.t.hi))), some (.int .u64 (tn (x0.u.lo))), some (.int .u64 (tn (x0.u.hi))), some (.int .i64 (ti (x0.s.lo))), some (.int .i64 (ti (x0.s.hi)))], 31⟩, ⟨w.heap.size + 1, [some (.int .u64 (tn (x1.t.lo))), some (.int .u64 (tn (x1.t.hi))), some (.int .u64 (tn (x1.u.lo))), some (.int .u64 (tn (x1.u.hi))), some (.int .i64 (ti (x1.s.lo))), some (.int .i64 (ti (x1.s.hi)))], 31⟩, ⟨w.heap.size + 2, [some (.int .u64 0), some (.int .u64 0), some (.int .u64 0), some (.int .u64 0), some (.int .i64 0), some (.int .i64 0)], 31⟩, ⟨w.heap.size + 3, [some (.int .u64 0), some (.int .u64 0), some (.int .u64 0), some (.int .u64 0), some (.int .i64 0), some (.int .i64 0)], 31⟩] _) := hid (((((st_nil w).alloc (k := w.heap.size) rfl [.int .u64 (tn (x0.t.lo)), .int .u64 (tn (x0.t.hi)), .int .u64 (tn (x0.u.lo)), .int .u64 (tn (x0.u.hi)), .int .i64 (ti (x0.s.lo)), .int .i64 (ti (x0.s.hi))] 31).alloc (k := w.heap.size + 1) (by simp) [.int .u64 (tn (x1.t.lo)), .int .u64 (tn (x1.t.hi)), .int .u64 (tn (x1.u.lo)), .int .u64 (tn (x1.u.hi)), .int .i64 (ti (x1.s.lo)), .int .i64 (ti (x1.s.hi))] 31).alloc (k := w.heap.size + 2) (by simp) [.int .u64 0, .int .u64 0, .int .u64 0, .int .u64 0, .int .i64 0, .int .i64 0] 31).alloc (k := w.heap.size + 3) (by simp) [.int .u64 0, .int .u64 0, .int .u64 0, .int .u64 0, .int .i64 0, .int .i64 0] 31)
 go_upto_region 1 with fail
 refine lnb HS.out rfl ?_
 refine lv 0 (.pointer (some ⟨w.heap.size, 0, none⟩)) rfl rfl (by intro x hx; go_simp; all_goals exact rfl) ?_
 simp only [sA, sB]
 refine lv 1 (vU x0.t) rfl rfl (by intro x hx; obtain ⟨f0, f1⟩ := hx.two 0 0 rfl rfl; go_simp; all_goals exact rfl) ?_
 simp only [sA, sB, vU]
 refine lv 2 (.pointer (some ⟨w.heap.size + 1, 0, none⟩)) rfl rfl (by intro x hx; go_simp; all_goals exact rfl) ?_
 simp only [sA, sB]
 refine lv 3 (vU x1.t) rfl rfl (by intro x hx; obtain ⟨f0, f1⟩ := hx.two 1 0 rfl rfl; go_simp; all_goals exact rfl) ?_
 simp only [sA, sB, vU]
 refine lc 4 54 #[vU x0.t, vU x1.t] (.tuple #[vU ((tnMeet x0.t x1.t).1), .bool ((tnMeet x0.t x1.t).2)]) rfl rfl (by intro x hx; exact tnMeet_any x0.t x1.t _) ?_
 simp only [sA, sB, vU]
 refine lm 5 19 rfl rfl rfl rfl ?_
 simp only [sA, sB]
 refine lv 6 (vU ((tnMeet x0.t x1.t).1)) rfl rfl (by intro x hx; go_simp; all_goals exact rfl) ?_
 simp only [sA, sB, vU]
 refine lv 7 (.bool ((tnMeet x0.t x1.t).2)) rfl rfl (by intro x hx; go_simp; all_goals exact rfl) ?_
 simp only [sA, sB]
 refine lin_new (i := 8) rfl rfl (by rfl) [.int .u64 0, .int .u64 0] 25 (fun k => .pointer (some ⟨k, 0, none⟩)) [some (.int .u64 0), some (.int .u64 0)] (lessC_refl _) (by intro x hx; go_simp; all_goals exact rfl) (fun k1 => ?_)
 simp only [sA, sB, sC, sD]
 refine ls 9 4 0 (cU ((tnMeet x0.t x1.t).1)) rfl rfl rfl (by intro x hx; obtain ⟨⟨_, z0, q0⟩, ⟨_, z1, q1⟩⟩ := hx.at2 4 0 rfl; go_simp; all_goals rfl) ?_
 simp only [Blk.putC, setM, cU, sA, sB]
 refine la 10 21 rfl rfl rfl rfl ?_
 simp only [sA, sB]
 clear HS
 refine ld fun W1 HS => ?_
 go_upto_region 2 with fail
 refine lnb HS.out rfl ?_
 refine lv 0 (.pointer (some ⟨w.heap.size, 2, none⟩)) rfl rfl (by intro x hx; go_simp; all_goals exact rfl) ?_
 simp only [sA, sB]
 refine lv 1 (vU x0.u) rfl rfl (by intro x hx; obtain ⟨f0, f1⟩ := hx.two 0 2 rfl rfl; go_simp; all_goals exact rfl) ?_
 simp only [sA, sB, vU]
 refine lv 2 (.pointer (some ⟨w.heap.size + 1, 2, none⟩)) rfl rfl (by intro x hx; go_simp; all_goals exact rfl) ?_
 simp only [sA, sB]
 refine lv 3 (vU x1.u) rfl rfl (by intro x hx; obtain ⟨f0, f1⟩ := hx.two 1 2 rfl rfl; go_simp; all_goals exact rfl) ?_
 simp only [sA, sB, vU]
 refine lc 4 44 #[vU x0.u, vU x1.u] (.tuple #[vU ((span_meet_uint64 x0.u x1.u).1), .bool ((span_meet_uint64 x0.u x1.u).2)]) rfl rfl (by intro x hx; exact span_Meet_any x0.u x1.u _) ?_
 simp only [sA, sB, vU]
 refine lm 5 27 rfl rfl rfl rfl ?_
 simp only [sA, sB]
 refine lv 6 (vU ((span_meet_uint64 x0.u x1.u).1)) rfl rfl (by intro x hx; go_simp; all_goals exact rfl) ?_
 simp only [sA, sB, vU]
 refine lv 7 (.bool ((span_meet_uint64 x0.u x1.u).2)) rfl rfl (by intro x hx; go_simp; all_goals exact rfl) ?_
 simp only [sA, sB]
 refine lin_new (i := 8) rfl rfl (by rfl) [.int .u64 0, .int .u64 0] 27 (fun k => .pointer (some ⟨k, 0, none⟩)) [some (.int .u64 0), some (.int .u64 0)] (lessC_refl _) (by intro x hx; go_simp; all_goals exact rfl) (fun k2 => ?_)
 simp only [sA, sB, sC, sD]
 refine ls 9 5 0 (cU ((span_meet_uint64 x0.u x1.u).1)) rfl rfl rfl (by intro x hx; obtain ⟨⟨_, z0, q0⟩, ⟨_, z1, q1⟩⟩ := hx.at2 5 0 rfl; go_simp; all_goals rfl) ?_
 simp only [Blk.putC, setM, cU, sA, sB]
 refine la 10 29 rfl rfl rfl rfl ?_
 simp only [sA, sB]
 clear HS
 refine ld fun W2 HS => ?_
 go_upto_region 3 with fail
 refine lnb HS.out rfl ?_
 refine lv 0 (.pointer (some ⟨w.heap.size, 4, none⟩)) rfl rfl (by intro x hx; go_simp; all_goals exact rfl) ?_
 simp only [sA, sB]
 refine lv 1 (vI x0.s) rfl rfl (by intro x hx; obtain ⟨f0, f1⟩ := hx.two 0 4 rfl rfl; go_simp; all_goals exact rfl) ?_
 simp only [sA, sB, vI]
 refine lv 2 (.pointer (some ⟨w.heap.size + 1, 4, none⟩)) rfl rfl (by intro x hx; go_simp; all_goals exact rfl) ?_
 simp only [sA, sB]
 refine lv 3 (vI x1.s) rfl rfl (by intro x hx; obtain ⟨f0, f1⟩ := hx.two 1 4 rfl rfl; go_simp; all_goals exact rfl) ?_
 simp only [sA, sB, vI]
 refine lc 4 47 #[vI x0.s, vI x1.s] (.tuple #[vI ((span_meet_int64 x0.s x1.s).1), .bool ((span_meet_int64 x0.s x1.s).2)]) rfl rfl (by intro x hx; exact span_Smeet_any x0.s x1.s _) ?_
 simp only [sA, sB, vI]
 refine lm 5 35 rfl rfl rfl rfl ?_
 simp only [sA, sB]
 refine lv 6 (vI ((span_meet_int64 x0.s x1.s).1)) rfl rfl (by intro x hx; go_simp; all_goals exact rfl) ?_
 simp only [sA, sB, vI]
 refine lv 7 (.bool ((span_meet_int64 x0.s x1.s).2)) rfl rfl (by intro x hx; go_simp; all_goals exact rfl) ?_
 simp only [sA, sB]
 refine lin_new (i := 8) rfl rfl (by rfl) [.int .i64 0, .int .i64 0] 29 (fun k => .pointer (some ⟨k, 0, none⟩)) [some (.int .i64 0), some (.int .i64 0)] (lessC_refl _) (by intro x hx; go_simp; all_goals exact rfl) (fun k3 => ?_)
 simp only [sA, sB, sC, sD]
 refine ls 9 6 0 (cI ((span_meet_int64 x0.s x1.s).1)) rfl rfl rfl (by intro x hx; obtain ⟨⟨_, z0, q0⟩, ⟨_, z1, q1⟩⟩ := hx.at2 6 0 rfl; go_simp; all_goals rfl) ?_
 simp only [Blk.putC, setM, cI, sA, sB]
 refine la 10 37 rfl rfl rfl rfl ?_
 simp only [sA, sB]
 clear HS
 refine ld fun W3 HS => ?_
 go_upto_region 4 with fail
 refine lnb HS.out rfl ?_
 refine lv 0 (vU ((tnMeet x0.t x1.t).1)) rfl rfl (by intro x hx; obtain ⟨f0, f1⟩ := hx.two 4 0 rfl rfl; go_simp; all_goals exact rfl) ?_
 simp only [sA, sB, vU]
 refine lv 1 (vU ((span_meet_uint64 x0.u x1.u).1)) rfl rfl (by intro x hx; obtain ⟨f0, f1⟩ := hx.two 5 0 rfl rfl; go_simp; all_goals exact rfl) ?_
 simp only [sA, sB, vU]
 refine lv 2 (vI ((span_meet_int64 x0.s x1.s).1)) rfl rfl (by intro x hx; obtain ⟨f0, f1⟩ := hx.two 6 0 rfl rfl; go_simp; all_goals exact rfl) ?_
 simp only [sA, sB, vI]
 refine lv 3 (vS (Sc.mk ((tnMeet x0.t x1.t).1) ((span_meet_uint64 x0.u x1.u).1) ((span_meet_int64 x0.s x1.s).1))) rfl rfl (by intro x hx; go_simp; all_goals exact rfl) ?_
 simp only [sA, sB, vS]
 refine lin_new (i := 4) rfl rfl (by rfl) [.int .u64 0, .int .u64 0, .int .u64 0, .int .u64 0, .int .i64 0, .int .i64 0] 31 (fun k => .pointer (some ⟨k, 0, none⟩)) [some (.int .u64 0), some (.int .u64 0), some (.int .u64 0), some (.int .u64 0), some (.int .i64 0), some (.int .i64 0)] (lessC_refl _) (by intro x hx; go_simp; all_goals exact rfl) (fun k4 => ?_)
 simp only [sA, sB, sC, sD]
 refine ls 5 7 0 (cS (Sc.mk ((tnMeet x0.t x1.t).1) ((span_meet_uint64 x0.u x1.u).1) ((span_meet_int64 x0.s x1.s).1))) rfl rfl rfl (by intro x hx; obtain ⟨⟨_, z0, q0⟩, ⟨_, z1, q1⟩, ⟨_, z2, q2⟩, ⟨_, z3, q3⟩, ⟨_, z4, q4⟩, ⟨_, z5, q5⟩⟩ := hx.at6 7 0 rfl; go_simp; all_goals rfl) ?_
 simp only [Blk.putC, setM, cS, sA, sB]
 clear HS
 refine ld fun W4 HS => ?_
 go_upto_region 5 with fail
 refine upb 12 (((HS.out.drew.forget 2 0 6 rfl).forget 3 0 6 rfl)) rfl ?_
 simp only [Blk.dropC, noneM, sA, sB]
 refine tv 0 (vS (Sc.mk ((tnMeet x0.t x1.t).1) ((span_meet_uint64 x0.u x1.u).1) ((span_meet_int64 x0.s x1.s).1))) rfl rfl (by intro x hx; obtain ⟨f0, f1, f2, f3, f4, f5⟩ := hx.six 7 0 rfl rfl; go_simp; all_goals exact rfl) ?_
 simp only [sA, sB, vS]
 refine tv 1 (vS (Sc.mk ((tnMeet x0.t x1.t).1) ((span_meet_uint64 x0.u x1.u).1) ((span_meet_int64 x0.s x1.s).1))) rfl rfl (by intro x hx; obtain ⟨f0, f1, f2, f3, f4, f5⟩ := hx.six 7 0 rfl rfl; go_simp; all_goals exact rfl) ?_
 simp only [sA, sB, vS]
 refine tm 2 8 rfl rfl rfl rfl ?_
 simp only [sA, sB]
 refine tm 3 44 rfl rfl rfl rfl ?_
 simp only [sA, sB]
 cases h1 : ((tnMeet x0.t x1.t).2)
 ·replace h1 := hid h1
  refine take_no (i := 4) (st_ups _ _) rfl rfl (by kernel_rfl) (fun _ _ _ h => h) (by kernel_rfl) ?_
  simp only [sA, sB]
  refine tv 5 (.bool false) rfl rfl (by intro x hx; go_simp; all_goals exact rfl) ?_
  simp only [sA, sB]
  refine tm 6 47 rfl rfl rfl rfl ?_
  simp only [sA, sB]
  refine take_no (i := 7) (st_ups _ _) rfl rfl (by kernel_rfl) (fun _ _ _ h => h) (by kernel_rfl) ?_
  simp only [sA, sB]
  refine tv 8 (.bool false) rfl rfl (by intro x hx; go_simp; all_goals exact rfl) ?_
  simp only [sA, sB]
  refine ts 9 2 0 (cS (Sc.mk ((tnMeet x0.t x1.t).1) ((span_meet_uint64 x0.u x1.u).1) ((span_meet_int64 x0.s x1.s).1))) rfl rfl rfl (by intro x hx; obtain ⟨⟨_, z0, q0⟩, ⟨_, z1, q1⟩, ⟨_, z2, q2⟩, ⟨_, z3, q3⟩, ⟨_, z4, q4⟩, ⟨_, z5, q5⟩⟩ := hx.at6 2 0 rfl; go_simp; all_goals rfl) ?_
  simp only [Blk.putC, setM, cS, sA, sB]
  refine ts 10 3 0 (cS (Sc.mk ((tnMeet x0.t x1.t).1) ((span_meet_uint64 x0.u x1.u).1) ((span_meet_int64 x0.s x1.s).1))) rfl rfl rfl (by intro x hx; obtain ⟨⟨_, z0, q0⟩, ⟨_, z1, q1⟩, ⟨_, z2, q2⟩, ⟨_, z3, q3⟩, ⟨_, z4, q4⟩, ⟨_, z5, q5⟩⟩ := hx.at6 3 0 rfl; go_simp; all_goals rfl) ?_
  simp only [Blk.putC, setM, cS, sA, sB]
  refine ta 11 50 rfl rfl rfl rfl ?_
  simp only [sA, sB]
  clear HS
  refine td fun W5 HS => ?_
  go_wp2
  obtain ⟨r0, r1, r2, r3, r4, r5⟩ := HS.out.six 2 0 rfl rfl
  obtain ⟨r6, r7, r8, r9, r10, r11⟩ := HS.out.six 3 0 rfl rfl
  have HF : scalar_same x0 x1 = (Sc.mk ((tnMeet x0.t x1.t).1) ((span_meet_uint64 x0.u x1.u).1) ((span_meet_int64 x0.s x1.s).1), Sc.mk ((tnMeet x0.t x1.t).1) ((span_meet_uint64 x0.u x1.u).1) ((span_meet_int64 x0.s x1.s).1), false) := by
    unfold scalar_same
    rw [cond_f h1.out]
  exact bodyPost_ret (v := .tuple #[vS (Sc.mk ((tnMeet x0.t x1.t).1) ((span_meet_uint64 x0.u x1.u).1) ((span_meet_int64 x0.s x1.s).1)), vS (Sc.mk ((tnMeet x0.t x1.t).1) ((span_meet_uint64 x0.u x1.u).1) ((span_meet_int64 x0.s x1.s).1)), .bool false]) (by simp [results, Tryz.results39, go_sem, r0, r1, r2, r3, r4, r5, r6, r7, r8, r9, r10, r11, vS]) rfl ⟨(by first | (rw [HF]; done) | (rw [HF]; rfl)), HS.out.below⟩
 ·replace h1 := hid h1
  refine tv 4 (.bool ((span_meet_uint64 x0.u x1.u).2)) rfl rfl (by intro x hx; go_simp; all_goals exact rfl) ?_
  simp only [sA, sB]
  refine tv 5 (.bool ((span_meet_uint64 x0.u x1.u).2)) rfl rfl (by intro x hx; go_simp; all_goals exact rfl) ?_
  simp only [sA, sB]
  refine tm 6 47 rfl rfl rfl rfl ?_
  simp only [sA, sB]
  cases h2 : ((span_meet_uint64 x0.u x1.u).2)
  ·replace h2 := hid h2
   refine take_no (i := 7) (st_ups _ _) rfl rfl (by kernel_rfl) (fun _ _ _ h => h) (by kernel_rfl) ?_
   simp only [sA, sB]
   refine tv 8 (.bool false) rfl rfl (by intro x hx; go_simp; all_goals exact rfl) ?_
   simp only [sA, sB]
   refine ts 9 2 0 (cS (Sc.mk ((tnMeet x0.t x1.t).1) ((span_meet_uint64 x0.u x1.u).1) ((span_meet_int64 x0.s x1.s).1))) rfl rfl rfl (by intro x hx; obtain ⟨⟨_, z0, q0⟩, ⟨_, z1, q1⟩, ⟨_, z2, q2⟩, ⟨_, z3, q3⟩, ⟨_, z4, q4⟩, ⟨_, z5, q5⟩⟩ := hx.at6 2 0 rfl; go_simp; all_goals rfl) ?_
   simp only [Blk.putC, setM, cS, sA, sB]
   refine ts 10 3 0 (cS (Sc.mk ((tnMeet x0.t x1.t).1) ((span_meet_uint64 x0.u x1.u).1) ((span_meet_int64 x0.s x1.s).1))) rfl rfl rfl (by intro x hx; obtain ⟨⟨_, z0, q0⟩, ⟨_, z1, q1⟩, ⟨_, z2, q2⟩, ⟨_, z3, q3⟩, ⟨_, z4, q4⟩, ⟨_, z5, q5⟩⟩ := hx.at6 3 0 rfl; go_simp; all_goals rfl) ?_
   simp only [Blk.putC, setM, cS, sA, sB]
   refine ta 11 50 rfl rfl rfl rfl ?_
   simp only [sA, sB]
   clear HS
   refine td fun W5 HS => ?_
   go_wp2
   obtain ⟨r0, r1, r2, r3, r4, r5⟩ := HS.out.six 2 0 rfl rfl
   obtain ⟨r6, r7, r8, r9, r10, r11⟩ := HS.out.six 3 0 rfl rfl
   have HF : scalar_same x0 x1 = (Sc.mk ((tnMeet x0.t x1.t).1) ((span_meet_uint64 x0.u x1.u).1) ((span_meet_int64 x0.s x1.s).1), Sc.mk ((tnMeet x0.t x1.t).1) ((span_meet_uint64 x0.u x1.u).1) ((span_meet_int64 x0.s x1.s).1), false) := by
     unfold scalar_same
     rw [cond_t h1.out, cond_f h2.out]
   exact bodyPost_ret (v := .tuple #[vS (Sc.mk ((tnMeet x0.t x1.t).1) ((span_meet_uint64 x0.u x1.u).1) ((span_meet_int64 x0.s x1.s).1)), vS (Sc.mk ((tnMeet x0.t x1.t).1) ((span_meet_uint64 x0.u x1.u).1) ((span_meet_int64 x0.s x1.s).1)), .bool false]) (by simp [results, Tryz.results39, go_sem, r0, r1, r2, r3, r4, r5, r6, r7, r8, r9, r10, r11, vS]) rfl ⟨(by first | (rw [HF]; done) | (rw [HF]; rfl)), HS.out.below⟩
  ·replace h2 := hid h2
   refine tv 7 (.bool ((span_meet_int64 x0.s x1.s).2)) rfl rfl (by intro x hx; go_simp; all_goals exact rfl) ?_
   simp only [sA, sB]
   refine tv 8 (.bool ((span_meet_int64 x0.s x1.s).2)) rfl rfl (by intro x hx; go_simp; all_goals exact rfl) ?_
   simp only [sA, sB]
   refine ts 9 2 0 (cS (Sc.mk ((tnMeet x0.t x1.t).1) ((span_meet_uint64 x0.u x1.u).1) ((span_meet_int64 x0.s x1.s).1))) rfl rfl rfl (by intro x hx; obtain ⟨⟨_, z0, q0⟩, ⟨_, z1, q1⟩, ⟨_, z2, q2⟩, ⟨_, z3, q3⟩, ⟨_, z4, q4⟩, ⟨_, z5, q5⟩⟩ := hx.at6 2 0 rfl; go_simp; all_goals rfl) ?_
   simp only [Blk.putC, setM, cS, sA, sB]
   refine ts 10 3 0 (cS (Sc.mk ((tnMeet x0.t x1.t).1) ((span_meet_uint64 x0.u x1.u).1) ((span_meet_int64 x0.s x1.s).1))) rfl rfl rfl (by intro x hx; obtain ⟨⟨_, z0, q0⟩, ⟨_, z1, q1⟩, ⟨_, z2, q2⟩, ⟨_, z3, q3⟩, ⟨_, z4, q4⟩, ⟨_, z5, q5⟩⟩ := hx.at6 3 0 rfl; go_simp; all_goals rfl) ?_
   simp only [Blk.putC, setM, cS, sA, sB]
   refine ta 11 50 rfl rfl rfl rfl ?_
   simp only [sA, sB]
   clear HS
   refine td fun W5 HS => ?_
   go_wp2
   obtain ⟨r0, r1, r2, r3, r4, r5⟩ := HS.out.six 2 0 rfl rfl
   obtain ⟨r6, r7, r8, r9, r10, r11⟩ := HS.out.six 3 0 rfl rfl
   have HF : scalar_same x0 x1 = (Sc.mk ((tnMeet x0.t x1.t).1) ((span_meet_uint64 x0.u x1.u).1) ((span_meet_int64 x0.s x1.s).1), Sc.mk ((tnMeet x0.t x1.t).1) ((span_meet_uint64 x0.u x1.u).1) ((span_meet_int64 x0.s x1.s).1), (span_meet_int64 x0.s x1.s).2) := by
     unfold scalar_same
     rw [cond_t h1.out, cond_t h2.out]
   exact bodyPost_ret (v := .tuple #[vS (Sc.mk ((tnMeet x0.t x1.t).1) ((span_meet_uint64 x0.u x1.u).1) ((span_meet_int64 x0.s x1.s).1)), vS (Sc.mk ((tnMeet x0.t x1.t).1) ((span_meet_uint64 x0.u x1.u).1) ((span_meet_int64 x0.s x1.s).1)), .bool ((span_meet_int64 x0.s x1.s).2)]) (by simp [results, Tryz.results39, go_sem, r0, r1, r2, r3, r4, r5, r6, r7, r8, r9, r10, r11, vS]) rfl ⟨(by first | (rw [HF]; done) | (rw [HF]; rfl)), HS.out.below⟩
end Go.Proofs.YtmcapfbkedfdkaaGreatDoor.Sp
