/-
  The laws' scalars about a number.
-/
import Derived.Deep.DeepCutAuto
import Derived.Test.YtdjgjeffdjjbiaaGreatDoorScF
import Derived.Test.YtdjgjeffdjjbiaaGreatDoorScI
import Derived.Test.YtdjgjeffdjjbiaaGreatDoorIf
namespace Go.Proofs.YtdjgjeffdjjbiaaGreatDoor.Sp
open Go.RowKit Go.Proofs.YtdjgjeffdjjbiaaGreatDoor.Num Go.Proofs.YtdjgjeffdjjbiaaGreatDoor.Up
structure Pr where
  V : BitVec 64
  W : BitVec 64
  Mask : BitVec 64
  Other : BitVec 64
  Down : BitVec 64
  Up : BitVec 64
  Less : BitVec 64
  More : BitVec 64
def law_around (x0 : BitVec 64) (x1 : BitVec 64) (x2 : BitVec 64) (x3 : BitVec 64)  : Sc :=
  bif ((x2 % 2#64) == 1#64) then (bif ltI x0 13835058055282163712#64 then (bif (!((scalar_Norm (Sc.mk (P.mk (x0 &&& ~~~x1) x1) (P.mk (x0 - (minU x2 x0)) (x0 + (minU x3 (18446744073709551615#64 - x0)))) (P.mk 9223372036854775808#64 x0))).2)) then (scalar_All) else ((scalar_Norm (Sc.mk (P.mk (x0 &&& ~~~x1) x1) (P.mk (x0 - (minU x2 x0)) (x0 + (minU x3 (18446744073709551615#64 - x0)))) (P.mk 9223372036854775808#64 x0))).1)) else (bif (!((scalar_Norm (Sc.mk (P.mk (x0 &&& ~~~x1) x1) (P.mk (x0 - (minU x2 x0)) (x0 + (minU x3 (18446744073709551615#64 - x0)))) (P.mk (maxI (x0 - (x2 % 1000#64)) 9223372036854775808#64) x0))).2)) then (scalar_All) else ((scalar_Norm (Sc.mk (P.mk (x0 &&& ~~~x1) x1) (P.mk (x0 - (minU x2 x0)) (x0 + (minU x3 (18446744073709551615#64 - x0)))) (P.mk (maxI (x0 - (x2 % 1000#64)) 9223372036854775808#64) x0))).1))) else (bif (!((scalar_Norm (Sc.mk (P.mk (x0 &&& ~~~x1) x1) (P.mk (x0 - (minU x2 x0)) (x0 + (minU x3 (18446744073709551615#64 - x0)))) (P.mk 9223372036854775808#64 9223372036854775807#64))).2)) then (scalar_All) else ((scalar_Norm (Sc.mk (P.mk (x0 &&& ~~~x1) x1) (P.mk (x0 - (minU x2 x0)) (x0 + (minU x3 (18446744073709551615#64 - x0)))) (P.mk 9223372036854775808#64 9223372036854775807#64))).1))
set_option maxRecDepth 100000 in
set_option maxHeartbeats 1000000 in
theorem law_around_any (x0 : BitVec 64) (x1 : BitVec 64) (x2 : BitVec 64) (x3 : BitVec 64)   (w : World) :
    Calls Tryz.prog 82 #[.int .u64 (tn (x0)), .int .u64 (tn (x1)), .int .u64 (tn (x2)), .int .u64 (tn (x3))] w fun e w' => e = .returned (vS (law_around x0 x1 x2 x3)) ∧ Below w.heap.size w w' := by
  simp only [vS]
  go_enter Tryz.func82, Tryz.ntmps82
  have HS : Hid (St w [⟨w.heap.size, [some (.int .u64 0), some (.int .u64 0), some (.int .u64 0), some (.int .u64 0), some (.int .i64 0), some (.int .i64 0)], 30⟩] _) := hid ((st_nil w).alloc (k := w.heap.size) rfl [.int .u64 0, .int .u64 0, .int .u64 0, .int .u64 0, .int .i64 0, .int .i64 0] 30)
  go_upto_region 1 with fail
  refine lnb HS.out rfl ?_
  refine lm 0 0 rfl rfl rfl rfl ?_
  simp only [sA, sB]
  refine lm 1 1 rfl rfl rfl rfl ?_
  simp only [sA, sB]
  refine lv 2 (.int .u64 (tn (x0 &&& ~~~x1))) rfl rfl (by intro x hx; go_simp; (first | done | exact andNotUT x0 x1 | exact congrArg _ (andNotUT x0 x1) | (rw [andNotUT x0 x1]; done) | (rw [andNotUT x0 x1]; rfl))) ?_
  simp only [sA, sB]
  refine lm 3 1 rfl rfl rfl rfl ?_
  simp only [sA, sB]
  refine lv 4 (vU (P.mk (x0 &&& ~~~x1) x1)) rfl rfl (by intro x hx; go_simp; (first | done | exact rfl)) ?_
  simp only [sA, sB, vU]
  refine lm 5 0 rfl rfl rfl rfl ?_
  simp only [sA, sB]
  refine lm 6 2 rfl rfl rfl rfl ?_
  simp only [sA, sB]
  refine lm 7 0 rfl rfl rfl rfl ?_
  simp only [sA, sB]
  refine lv 8 (.int .u64 (tn (minU x2 x0))) rfl rfl (by intro x hx; go_simp; (first | done | exact minUT x2 x0)) ?_
  simp only [sA, sB]
  refine lv 9 (.int .u64 (tn (x0 - (minU x2 x0)))) rfl rfl (by intro x hx; go_simp; (first | done | exact subUT x0 (minU x2 x0) | exact congrArg _ (subUT x0 (minU x2 x0)) | (rw [subUT x0 (minU x2 x0)]; done) | (rw [subUT x0 (minU x2 x0)]; rfl))) ?_
  simp only [sA, sB]
  refine lm 10 0 rfl rfl rfl rfl ?_
  simp only [sA, sB]
  refine lm 11 3 rfl rfl rfl rfl ?_
  simp only [sA, sB]
  refine lm 12 0 rfl rfl rfl rfl ?_
  simp only [sA, sB]
  refine lv 13 (.int .u64 (tn (18446744073709551615#64 - x0))) rfl rfl (by intro x hx; go_simp; (first | done | exact subUT 18446744073709551615#64 x0 | exact congrArg _ (subUT 18446744073709551615#64 x0) | (rw [subUT 18446744073709551615#64 x0]; done) | (rw [subUT 18446744073709551615#64 x0]; rfl))) ?_
  simp only [sA, sB]
  refine lv 14 (.int .u64 (tn (minU x3 (18446744073709551615#64 - x0)))) rfl rfl (by intro x hx; go_simp; (first | done | exact minUT x3 (18446744073709551615#64 - x0))) ?_
  simp only [sA, sB]
  refine lv 15 (.int .u64 (tn (x0 + (minU x3 (18446744073709551615#64 - x0))))) rfl rfl (by intro x hx; go_simp; (first | done | exact addUT x0 (minU x3 (18446744073709551615#64 - x0)) | exact congrArg _ (addUT x0 (minU x3 (18446744073709551615#64 - x0))) | (rw [addUT x0 (minU x3 (18446744073709551615#64 - x0))]; done) | (rw [addUT x0 (minU x3 (18446744073709551615#64 - x0))]; rfl))) ?_
  simp only [sA, sB]
  refine lv 16 (vU (P.mk (x0 - (minU x2 x0)) (x0 + (minU x3 (18446744073709551615#64 - x0))))) rfl rfl (by intro x hx; go_simp; (first | done | exact rfl)) ?_
  simp only [sA, sB, vU]
  refine lv 17 (.agg #[.int .i64 (-9223372036854775808), .int .i64 9223372036854775807]) rfl rfl (by intro x hx; go_simp; (first | done | exact rfl)) ?_
  simp only [sA, sB]
  refine lv 18 (.agg #[.int .u64 (tn (x0 &&& ~~~x1)), .int .u64 (tn (x1)), .int .u64 (tn (x0 - (minU x2 x0))), .int .u64 (tn (x0 + (minU x3 (18446744073709551615#64 - x0)))), .int .i64 (-9223372036854775808), .int .i64 9223372036854775807]) rfl rfl (by intro x hx; go_simp; (first | done | exact rfl)) ?_
  simp only [sA, sB]
  refine lin_new (i := 19) rfl rfl (by rfl) [.int .u64 0, .int .u64 0, .int .u64 0, .int .u64 0, .int .i64 0, .int .i64 0] 30 (fun k => .pointer (some ⟨k, 0, none⟩)) [some (.int .u64 0), some (.int .u64 0), some (.int .u64 0), some (.int .u64 0), some (.int .i64 0), some (.int .i64 0)] (lessC_refl _) (by intro x hx; go_simp; (first | done | exact rfl)) (fun k1 => ?_)
  simp only [sA, sB, sC, sD]
  refine ls 20 1 0 [.int .u64 (tn (x0 &&& ~~~x1)), .int .u64 (tn (x1)), .int .u64 (tn (x0 - (minU x2 x0))), .int .u64 (tn (x0 + (minU x3 (18446744073709551615#64 - x0)))), .int .i64 (-9223372036854775808), .int .i64 9223372036854775807] rfl rfl rfl (by intro x hx; obtain ⟨⟨_, z0, q0⟩, ⟨_, z1, q1⟩, ⟨_, z2, q2⟩, ⟨_, z3, q3⟩, ⟨_, z4, q4⟩, ⟨_, z5, q5⟩⟩ := hx.at6 1 0 rfl; go_simp; (first | done | rfl)) ?_
  simp only [Blk.putC, setM, sA, sB]
  clear HS
  refine ld fun W1 HS => ?_
  go_upto_region 2 with fail
  refine lnb HS.out rfl ?_
  refine lm 0 2 rfl rfl rfl rfl ?_
  simp only [sA, sB]
  refine lv 1 (.int .u64 (tn (x2 % 2#64))) rfl rfl (by intro x hx; go_simp; (first | done | exact remUT x2 2#64 | exact congrArg _ (remUT x2 2#64) | (rw [remUT x2 2#64]; done) | (rw [remUT x2 2#64]; rfl))) ?_
  simp only [sA, sB]
  refine lv 2 (.bool (((x2 % 2#64) == 1#64))) rfl rfl (by intro x hx; go_simp; (first | done | exact eqUT (x2 % 2#64) 1#64 | exact congrArg _ (eqUT (x2 % 2#64) 1#64) | (rw [eqUT (x2 % 2#64) 1#64]; done) | (rw [eqUT (x2 % 2#64) 1#64]; rfl))) ?_
  simp only [sA, sB]
  clear HS
  refine ld fun W2 HS => ?_
  cases h1 : (((x2 % 2#64) == 1#64))
  ·replace h1 := hid h1
   go_upto_region 7 with fail
   refine lnb HS.out rfl ?_
   refine lv 0 (.agg #[.int .u64 (tn (x0 &&& ~~~x1)), .int .u64 (tn (x1)), .int .u64 (tn (x0 - (minU x2 x0))), .int .u64 (tn (x0 + (minU x3 (18446744073709551615#64 - x0)))), .int .i64 (-9223372036854775808), .int .i64 9223372036854775807]) rfl rfl (by intro x hx; obtain ⟨f0, f1, f2, f3, f4, f5⟩ := hx.six 1 0 rfl rfl; go_simp; (first | done | exact rfl)) ?_
   simp only [sA, sB]
   refine lc 1 9 #[vS (Sc.mk (P.mk (x0 &&& ~~~x1) x1) (P.mk (x0 - (minU x2 x0)) (x0 + (minU x3 (18446744073709551615#64 - x0)))) (P.mk 9223372036854775808#64 9223372036854775807#64))] (.tuple #[vS ((scalar_Norm (Sc.mk (P.mk (x0 &&& ~~~x1) x1) (P.mk (x0 - (minU x2 x0)) (x0 + (minU x3 (18446744073709551615#64 - x0)))) (P.mk 9223372036854775808#64 9223372036854775807#64))).1), .bool ((scalar_Norm (Sc.mk (P.mk (x0 &&& ~~~x1) x1) (P.mk (x0 - (minU x2 x0)) (x0 + (minU x3 (18446744073709551615#64 - x0)))) (P.mk 9223372036854775808#64 9223372036854775807#64))).2)]) rfl rfl (by intro x hx; exact scalar_Norm_any (Sc.mk (P.mk (x0 &&& ~~~x1) x1) (P.mk (x0 - (minU x2 x0)) (x0 + (minU x3 (18446744073709551615#64 - x0)))) (P.mk 9223372036854775808#64 9223372036854775807#64)) _) ?_
   simp only [sA, sB, vS]
   refine lm 2 52 rfl rfl rfl rfl ?_
   simp only [sA, sB]
   refine lv 3 (vS ((scalar_Norm (Sc.mk (P.mk (x0 &&& ~~~x1) x1) (P.mk (x0 - (minU x2 x0)) (x0 + (minU x3 (18446744073709551615#64 - x0)))) (P.mk 9223372036854775808#64 9223372036854775807#64))).1)) rfl rfl (by intro x hx; go_simp; (first | done | exact rfl)) ?_
   simp only [sA, sB, vS]
   refine lv 4 (.bool ((scalar_Norm (Sc.mk (P.mk (x0 &&& ~~~x1) x1) (P.mk (x0 - (minU x2 x0)) (x0 + (minU x3 (18446744073709551615#64 - x0)))) (P.mk 9223372036854775808#64 9223372036854775807#64))).2)) rfl rfl (by intro x hx; go_simp; (first | done | exact rfl)) ?_
   simp only [sA, sB]
   refine lin_new (i := 5) rfl rfl (by rfl) [.int .u64 0, .int .u64 0, .int .u64 0, .int .u64 0, .int .i64 0, .int .i64 0] 30 (fun k => .pointer (some ⟨k, 0, none⟩)) [some (.int .u64 0), some (.int .u64 0), some (.int .u64 0), some (.int .u64 0), some (.int .i64 0), some (.int .i64 0)] (lessC_refl _) (by intro x hx; go_simp; (first | done | exact rfl)) (fun k2 => ?_)
   simp only [sA, sB, sC, sD]
   refine ls 6 2 0 (cS ((scalar_Norm (Sc.mk (P.mk (x0 &&& ~~~x1) x1) (P.mk (x0 - (minU x2 x0)) (x0 + (minU x3 (18446744073709551615#64 - x0)))) (P.mk 9223372036854775808#64 9223372036854775807#64))).1)) rfl rfl rfl (by intro x hx; obtain ⟨⟨_, z0, q0⟩, ⟨_, z1, q1⟩, ⟨_, z2, q2⟩, ⟨_, z3, q3⟩, ⟨_, z4, q4⟩, ⟨_, z5, q5⟩⟩ := hx.at6 2 0 rfl; go_simp; (first | done | rfl)) ?_
   simp only [Blk.putC, setM, cS, sA, sB]
   refine la 7 54 rfl rfl rfl rfl ?_
   simp only [sA, sB]
   clear HS
   refine ld fun W3 HS => ?_
   go_upto_region 8 with fail
   refine lnb HS.out rfl ?_
   refine lm 0 12 rfl rfl rfl rfl ?_
   simp only [sA, sB]
   refine lv 1 (.bool ((!((scalar_Norm (Sc.mk (P.mk (x0 &&& ~~~x1) x1) (P.mk (x0 - (minU x2 x0)) (x0 + (minU x3 (18446744073709551615#64 - x0)))) (P.mk 9223372036854775808#64 9223372036854775807#64))).2)))) rfl rfl (by intro x hx; go_simp; (first | done | exact rfl)) ?_
   simp only [sA, sB]
   clear HS
   refine ld fun W4 HS => ?_
   cases h2 : ((!((scalar_Norm (Sc.mk (P.mk (x0 &&& ~~~x1) x1) (P.mk (x0 - (minU x2 x0)) (x0 + (minU x3 (18446744073709551615#64 - x0)))) (P.mk 9223372036854775808#64 9223372036854775807#64))).2)))
   ·replace h2 := hid h2
    go_upto_region 10 with fail
    refine lnb HS.out rfl ?_
    refine lv 0 (vS ((scalar_Norm (Sc.mk (P.mk (x0 &&& ~~~x1) x1) (P.mk (x0 - (minU x2 x0)) (x0 + (minU x3 (18446744073709551615#64 - x0)))) (P.mk 9223372036854775808#64 9223372036854775807#64))).1)) rfl rfl (by intro x hx; obtain ⟨f0, f1, f2, f3, f4, f5⟩ := hx.six 2 0 rfl rfl; go_simp; (first | done | exact rfl)) ?_
    simp only [sA, sB, vS]
    refine ls 1 0 0 (cS ((scalar_Norm (Sc.mk (P.mk (x0 &&& ~~~x1) x1) (P.mk (x0 - (minU x2 x0)) (x0 + (minU x3 (18446744073709551615#64 - x0)))) (P.mk 9223372036854775808#64 9223372036854775807#64))).1)) rfl rfl rfl (by intro x hx; obtain ⟨⟨_, z0, q0⟩, ⟨_, z1, q1⟩, ⟨_, z2, q2⟩, ⟨_, z3, q3⟩, ⟨_, z4, q4⟩, ⟨_, z5, q5⟩⟩ := hx.at6 0 0 rfl; go_simp; (first | done | rfl)) ?_
    simp only [Blk.putC, setM, cS, sA, sB]
    clear HS
    refine ld fun W5 HS => ?_
    go_wp2
    obtain ⟨r0, r1, r2, r3, r4, r5⟩ := HS.out.six 0 0 rfl rfl
    have HF : law_around x0 x1 x2 x3 = (scalar_Norm (Sc.mk (P.mk (x0 &&& ~~~x1) x1) (P.mk (x0 - (minU x2 x0)) (x0 + (minU x3 (18446744073709551615#64 - x0)))) (P.mk 9223372036854775808#64 9223372036854775807#64))).1 := by
      unfold law_around
      rw [cond_f h1.out, cond_f h2.out]
    exact bodyPost_ret (v := vS ((scalar_Norm (Sc.mk (P.mk (x0 &&& ~~~x1) x1) (P.mk (x0 - (minU x2 x0)) (x0 + (minU x3 (18446744073709551615#64 - x0)))) (P.mk 9223372036854775808#64 9223372036854775807#64))).1)) (by simp [results, Tryz.results82, go_sem, r0, r1, r2, r3, r4, r5, vS]) rfl ⟨(by first | (rw [HF]; done) | (rw [HF]; rfl)), HS.out.below⟩
   ·replace h2 := hid h2
    go_upto_region 9 with fail
    refine lnb HS.out rfl ?_
    refine lc 0 25 #[] (vS scalar_All) rfl rfl (by intro x hx; exact scalar_All_any _) ?_
    simp only [sA, sB, vS]
    refine ls 1 0 0 (cS scalar_All) rfl rfl rfl (by intro x hx; obtain ⟨⟨_, z0, q0⟩, ⟨_, z1, q1⟩, ⟨_, z2, q2⟩, ⟨_, z3, q3⟩, ⟨_, z4, q4⟩, ⟨_, z5, q5⟩⟩ := hx.at6 0 0 rfl; go_simp; (first | done | rfl)) ?_
    simp only [Blk.putC, setM, cS, sA, sB]
    clear HS
    refine ld fun W5 HS => ?_
    go_wp2
    obtain ⟨r0, r1, r2, r3, r4, r5⟩ := HS.out.six 0 0 rfl rfl
    have HF : law_around x0 x1 x2 x3 = scalar_All := by
      unfold law_around
      rw [cond_f h1.out, cond_t h2.out]
    exact bodyPost_ret (v := vS scalar_All) (by simp [results, Tryz.results82, go_sem, r0, r1, r2, r3, r4, r5, vS]) rfl ⟨(by first | (rw [HF]; done) | (rw [HF]; rfl)), HS.out.below⟩
  ·replace h1 := hid h1
   go_upto_region 3 with fail
   refine lnb HS.out rfl ?_
   refine lm 0 0 rfl rfl rfl rfl ?_
   simp only [sA, sB]
   refine lv 1 (.int .i64 (ti (x0))) rfl rfl (by intro x hx; go_simp; (first | done | exact toI64 x0 | exact congrArg _ (toI64 x0) | (rw [toI64 x0]; done) | (rw [toI64 x0]; rfl))) ?_
   simp only [sA, sB]
   refine la 2 36 rfl rfl rfl rfl ?_
   simp only [sA, sB]
   clear HS
   refine ld fun W3 HS => ?_
   go_upto_region 4 with fail
   refine lnb HS.out rfl ?_
   refine lm 0 10 rfl rfl rfl rfl ?_
   simp only [sA, sB]
   refine lm 1 2 rfl rfl rfl rfl ?_
   simp only [sA, sB]
   refine lv 2 (.int .u64 (tn (x2 % 1000#64))) rfl rfl (by intro x hx; go_simp; (first | done | exact remUT x2 1000#64 | exact congrArg _ (remUT x2 1000#64) | (rw [remUT x2 1000#64]; done) | (rw [remUT x2 1000#64]; rfl))) ?_
   simp only [sA, sB]
   refine lv 3 (.int .i64 (ti (x2 % 1000#64))) rfl rfl (by intro x hx; go_simp; (first | done | exact toI64 (x2 % 1000#64) | exact congrArg _ (toI64 (x2 % 1000#64)) | (rw [toI64 (x2 % 1000#64)]; done) | (rw [toI64 (x2 % 1000#64)]; rfl))) ?_
   simp only [sA, sB]
   refine lv 4 (.int .i64 (ti (x0 - (x2 % 1000#64)))) rfl rfl (by intro x hx; go_simp; (first | done | exact subIT x0 (x2 % 1000#64) | exact congrArg _ (subIT x0 (x2 % 1000#64)) | (rw [subIT x0 (x2 % 1000#64)]; done) | (rw [subIT x0 (x2 % 1000#64)]; rfl))) ?_
   simp only [sA, sB]
   refine lv 5 (.int .i64 (ti (maxI (x0 - (x2 % 1000#64)) 9223372036854775808#64))) rfl rfl (by intro x hx; go_simp; (first | done | exact maxIT (x0 - (x2 % 1000#64)) 9223372036854775808#64)) ?_
   simp only [sA, sB]
   refine lm 6 10 rfl rfl rfl rfl ?_
   simp only [sA, sB]
   refine lv 7 (vI (P.mk (maxI (x0 - (x2 % 1000#64)) 9223372036854775808#64) x0)) rfl rfl (by intro x hx; go_simp; (first | done | exact rfl)) ?_
   simp only [sA, sB, vI]
   refine lv 8 (.pointer (some ⟨k1, 4, none⟩)) rfl rfl (by intro x hx; go_simp; (first | done | exact rfl)) ?_
   simp only [sA, sB]
   refine ls 9 1 4 (cI (P.mk (maxI (x0 - (x2 % 1000#64)) 9223372036854775808#64) x0)) rfl rfl rfl (by intro x hx; obtain ⟨⟨_, z0, q0⟩, ⟨_, z1, q1⟩⟩ := hx.at2 1 4 rfl; go_simp; (first | done | rfl)) ?_
   simp only [Blk.putC, setM, cI, sA, sB]
   clear HS
   refine ld fun W4 HS => ?_
   go_upto_region 5 with fail
   refine lnb HS.out rfl ?_
   refine lm 0 10 rfl rfl rfl rfl ?_
   simp only [sA, sB]
   refine lv 1 (.bool (ltI x0 13835058055282163712#64)) rfl rfl (by intro x hx; go_simp; (first | done | exact ltIT x0 13835058055282163712#64 | exact congrArg _ (ltIT x0 13835058055282163712#64) | (rw [ltIT x0 13835058055282163712#64]; done) | (rw [ltIT x0 13835058055282163712#64]; rfl))) ?_
   simp only [sA, sB]
   clear HS
   refine ld fun W5 HS => ?_
   cases h2 : (ltI x0 13835058055282163712#64)
   ·replace h2 := hid h2
    go_upto_region 7 with fail
    refine lnb HS.out rfl ?_
    refine lv 0 (vS (Sc.mk (P.mk (x0 &&& ~~~x1) x1) (P.mk (x0 - (minU x2 x0)) (x0 + (minU x3 (18446744073709551615#64 - x0)))) (P.mk (maxI (x0 - (x2 % 1000#64)) 9223372036854775808#64) x0))) rfl rfl (by intro x hx; obtain ⟨f0, f1, f2, f3, f4, f5⟩ := hx.six 1 0 rfl rfl; go_simp; (first | done | exact rfl)) ?_
    simp only [sA, sB, vS]
    refine lc 1 9 #[vS (Sc.mk (P.mk (x0 &&& ~~~x1) x1) (P.mk (x0 - (minU x2 x0)) (x0 + (minU x3 (18446744073709551615#64 - x0)))) (P.mk (maxI (x0 - (x2 % 1000#64)) 9223372036854775808#64) x0))] (.tuple #[vS ((scalar_Norm (Sc.mk (P.mk (x0 &&& ~~~x1) x1) (P.mk (x0 - (minU x2 x0)) (x0 + (minU x3 (18446744073709551615#64 - x0)))) (P.mk (maxI (x0 - (x2 % 1000#64)) 9223372036854775808#64) x0))).1), .bool ((scalar_Norm (Sc.mk (P.mk (x0 &&& ~~~x1) x1) (P.mk (x0 - (minU x2 x0)) (x0 + (minU x3 (18446744073709551615#64 - x0)))) (P.mk (maxI (x0 - (x2 % 1000#64)) 9223372036854775808#64) x0))).2)]) rfl rfl (by intro x hx; exact scalar_Norm_any (Sc.mk (P.mk (x0 &&& ~~~x1) x1) (P.mk (x0 - (minU x2 x0)) (x0 + (minU x3 (18446744073709551615#64 - x0)))) (P.mk (maxI (x0 - (x2 % 1000#64)) 9223372036854775808#64) x0)) _) ?_
    simp only [sA, sB, vS]
    refine lm 2 52 rfl rfl rfl rfl ?_
    simp only [sA, sB]
    refine lv 3 (vS ((scalar_Norm (Sc.mk (P.mk (x0 &&& ~~~x1) x1) (P.mk (x0 - (minU x2 x0)) (x0 + (minU x3 (18446744073709551615#64 - x0)))) (P.mk (maxI (x0 - (x2 % 1000#64)) 9223372036854775808#64) x0))).1)) rfl rfl (by intro x hx; go_simp; (first | done | exact rfl)) ?_
    simp only [sA, sB, vS]
    refine lv 4 (.bool ((scalar_Norm (Sc.mk (P.mk (x0 &&& ~~~x1) x1) (P.mk (x0 - (minU x2 x0)) (x0 + (minU x3 (18446744073709551615#64 - x0)))) (P.mk (maxI (x0 - (x2 % 1000#64)) 9223372036854775808#64) x0))).2)) rfl rfl (by intro x hx; go_simp; (first | done | exact rfl)) ?_
    simp only [sA, sB]
    refine lin_new (i := 5) rfl rfl (by rfl) [.int .u64 0, .int .u64 0, .int .u64 0, .int .u64 0, .int .i64 0, .int .i64 0] 30 (fun k => .pointer (some ⟨k, 0, none⟩)) [some (.int .u64 0), some (.int .u64 0), some (.int .u64 0), some (.int .u64 0), some (.int .i64 0), some (.int .i64 0)] (lessC_refl _) (by intro x hx; go_simp; (first | done | exact rfl)) (fun k2 => ?_)
    simp only [sA, sB, sC, sD]
    refine ls 6 2 0 (cS ((scalar_Norm (Sc.mk (P.mk (x0 &&& ~~~x1) x1) (P.mk (x0 - (minU x2 x0)) (x0 + (minU x3 (18446744073709551615#64 - x0)))) (P.mk (maxI (x0 - (x2 % 1000#64)) 9223372036854775808#64) x0))).1)) rfl rfl rfl (by intro x hx; obtain ⟨⟨_, z0, q0⟩, ⟨_, z1, q1⟩, ⟨_, z2, q2⟩, ⟨_, z3, q3⟩, ⟨_, z4, q4⟩, ⟨_, z5, q5⟩⟩ := hx.at6 2 0 rfl; go_simp; (first | done | rfl)) ?_
    simp only [Blk.putC, setM, cS, sA, sB]
    refine la 7 54 rfl rfl rfl rfl ?_
    simp only [sA, sB]
    clear HS
    refine ld fun W6 HS => ?_
    go_upto_region 8 with fail
    refine lnb HS.out rfl ?_
    refine lm 0 12 rfl rfl rfl rfl ?_
    simp only [sA, sB]
    refine lv 1 (.bool ((!((scalar_Norm (Sc.mk (P.mk (x0 &&& ~~~x1) x1) (P.mk (x0 - (minU x2 x0)) (x0 + (minU x3 (18446744073709551615#64 - x0)))) (P.mk (maxI (x0 - (x2 % 1000#64)) 9223372036854775808#64) x0))).2)))) rfl rfl (by intro x hx; go_simp; (first | done | exact rfl)) ?_
    simp only [sA, sB]
    clear HS
    refine ld fun W7 HS => ?_
    cases h3 : ((!((scalar_Norm (Sc.mk (P.mk (x0 &&& ~~~x1) x1) (P.mk (x0 - (minU x2 x0)) (x0 + (minU x3 (18446744073709551615#64 - x0)))) (P.mk (maxI (x0 - (x2 % 1000#64)) 9223372036854775808#64) x0))).2)))
    ·replace h3 := hid h3
     go_upto_region 10 with fail
     refine lnb HS.out rfl ?_
     refine lv 0 (vS ((scalar_Norm (Sc.mk (P.mk (x0 &&& ~~~x1) x1) (P.mk (x0 - (minU x2 x0)) (x0 + (minU x3 (18446744073709551615#64 - x0)))) (P.mk (maxI (x0 - (x2 % 1000#64)) 9223372036854775808#64) x0))).1)) rfl rfl (by intro x hx; obtain ⟨f0, f1, f2, f3, f4, f5⟩ := hx.six 2 0 rfl rfl; go_simp; (first | done | exact rfl)) ?_
     simp only [sA, sB, vS]
     refine ls 1 0 0 (cS ((scalar_Norm (Sc.mk (P.mk (x0 &&& ~~~x1) x1) (P.mk (x0 - (minU x2 x0)) (x0 + (minU x3 (18446744073709551615#64 - x0)))) (P.mk (maxI (x0 - (x2 % 1000#64)) 9223372036854775808#64) x0))).1)) rfl rfl rfl (by intro x hx; obtain ⟨⟨_, z0, q0⟩, ⟨_, z1, q1⟩, ⟨_, z2, q2⟩, ⟨_, z3, q3⟩, ⟨_, z4, q4⟩, ⟨_, z5, q5⟩⟩ := hx.at6 0 0 rfl; go_simp; (first | done | rfl)) ?_
     simp only [Blk.putC, setM, cS, sA, sB]
     clear HS
     refine ld fun W8 HS => ?_
     go_wp2
     obtain ⟨r0, r1, r2, r3, r4, r5⟩ := HS.out.six 0 0 rfl rfl
     have HF : law_around x0 x1 x2 x3 = (scalar_Norm (Sc.mk (P.mk (x0 &&& ~~~x1) x1) (P.mk (x0 - (minU x2 x0)) (x0 + (minU x3 (18446744073709551615#64 - x0)))) (P.mk (maxI (x0 - (x2 % 1000#64)) 9223372036854775808#64) x0))).1 := by
       unfold law_around
       rw [cond_t h1.out, cond_f h2.out, cond_f h3.out]
     exact bodyPost_ret (v := vS ((scalar_Norm (Sc.mk (P.mk (x0 &&& ~~~x1) x1) (P.mk (x0 - (minU x2 x0)) (x0 + (minU x3 (18446744073709551615#64 - x0)))) (P.mk (maxI (x0 - (x2 % 1000#64)) 9223372036854775808#64) x0))).1)) (by simp [results, Tryz.results82, go_sem, r0, r1, r2, r3, r4, r5, vS]) rfl ⟨(by first | (rw [HF]; done) | (rw [HF]; rfl)), HS.out.below⟩
    ·replace h3 := hid h3
     go_upto_region 9 with fail
     refine lnb HS.out rfl ?_
     refine lc 0 25 #[] (vS scalar_All) rfl rfl (by intro x hx; exact scalar_All_any _) ?_
     simp only [sA, sB, vS]
     refine ls 1 0 0 (cS scalar_All) rfl rfl rfl (by intro x hx; obtain ⟨⟨_, z0, q0⟩, ⟨_, z1, q1⟩, ⟨_, z2, q2⟩, ⟨_, z3, q3⟩, ⟨_, z4, q4⟩, ⟨_, z5, q5⟩⟩ := hx.at6 0 0 rfl; go_simp; (first | done | rfl)) ?_
     simp only [Blk.putC, setM, cS, sA, sB]
     clear HS
     refine ld fun W8 HS => ?_
     go_wp2
     obtain ⟨r0, r1, r2, r3, r4, r5⟩ := HS.out.six 0 0 rfl rfl
     have HF : law_around x0 x1 x2 x3 = scalar_All := by
       unfold law_around
       rw [cond_t h1.out, cond_f h2.out, cond_t h3.out]
     exact bodyPost_ret (v := vS scalar_All) (by simp [results, Tryz.results82, go_sem, r0, r1, r2, r3, r4, r5, vS]) rfl ⟨(by first | (rw [HF]; done) | (rw [HF]; rfl)), HS.out.below⟩
   ·replace h2 := hid h2
    go_upto_region 6 with fail
    refine lnb HS.out rfl ?_
    refine lv 0 (.pointer (some ⟨k1, 4, none⟩)) rfl rfl (by intro x hx; go_simp; (first | done | exact rfl)) ?_
    simp only [sA, sB]
    refine lv 1 (.pointer (some ⟨k1, 4, none⟩)) rfl rfl (by intro x hx; go_simp; (first | done | exact rfl)) ?_
    simp only [sA, sB]
    refine ls 2 1 4 [.int .i64 (-9223372036854775808)] rfl rfl rfl (by intro x hx; obtain ⟨_, z0, q0⟩ := hx.at1 1 4 rfl; go_simp; (first | done | rfl)) ?_
    simp only [Blk.putC, setM, sA, sB]
    clear HS
    refine ld fun W6 HS => ?_
    go_upto_region 7 with fail
    refine lnb HS.out rfl ?_
    refine lv 0 (.agg #[.int .u64 (tn (x0 &&& ~~~x1)), .int .u64 (tn (x1)), .int .u64 (tn (x0 - (minU x2 x0))), .int .u64 (tn (x0 + (minU x3 (18446744073709551615#64 - x0)))), .int .i64 (-9223372036854775808), .int .i64 (ti (x0))]) rfl rfl (by intro x hx; obtain ⟨f0, f1, f2, f3, f4, f5⟩ := hx.six 1 0 rfl rfl; go_simp; (first | done | exact rfl)) ?_
    simp only [sA, sB]
    refine lc 1 9 #[vS (Sc.mk (P.mk (x0 &&& ~~~x1) x1) (P.mk (x0 - (minU x2 x0)) (x0 + (minU x3 (18446744073709551615#64 - x0)))) (P.mk 9223372036854775808#64 x0))] (.tuple #[vS ((scalar_Norm (Sc.mk (P.mk (x0 &&& ~~~x1) x1) (P.mk (x0 - (minU x2 x0)) (x0 + (minU x3 (18446744073709551615#64 - x0)))) (P.mk 9223372036854775808#64 x0))).1), .bool ((scalar_Norm (Sc.mk (P.mk (x0 &&& ~~~x1) x1) (P.mk (x0 - (minU x2 x0)) (x0 + (minU x3 (18446744073709551615#64 - x0)))) (P.mk 9223372036854775808#64 x0))).2)]) rfl rfl (by intro x hx; exact scalar_Norm_any (Sc.mk (P.mk (x0 &&& ~~~x1) x1) (P.mk (x0 - (minU x2 x0)) (x0 + (minU x3 (18446744073709551615#64 - x0)))) (P.mk 9223372036854775808#64 x0)) _) ?_
    simp only [sA, sB, vS]
    refine lm 2 52 rfl rfl rfl rfl ?_
    simp only [sA, sB]
    refine lv 3 (vS ((scalar_Norm (Sc.mk (P.mk (x0 &&& ~~~x1) x1) (P.mk (x0 - (minU x2 x0)) (x0 + (minU x3 (18446744073709551615#64 - x0)))) (P.mk 9223372036854775808#64 x0))).1)) rfl rfl (by intro x hx; go_simp; (first | done | exact rfl)) ?_
    simp only [sA, sB, vS]
    refine lv 4 (.bool ((scalar_Norm (Sc.mk (P.mk (x0 &&& ~~~x1) x1) (P.mk (x0 - (minU x2 x0)) (x0 + (minU x3 (18446744073709551615#64 - x0)))) (P.mk 9223372036854775808#64 x0))).2)) rfl rfl (by intro x hx; go_simp; (first | done | exact rfl)) ?_
    simp only [sA, sB]
    refine lin_new (i := 5) rfl rfl (by rfl) [.int .u64 0, .int .u64 0, .int .u64 0, .int .u64 0, .int .i64 0, .int .i64 0] 30 (fun k => .pointer (some ⟨k, 0, none⟩)) [some (.int .u64 0), some (.int .u64 0), some (.int .u64 0), some (.int .u64 0), some (.int .i64 0), some (.int .i64 0)] (lessC_refl _) (by intro x hx; go_simp; (first | done | exact rfl)) (fun k2 => ?_)
    simp only [sA, sB, sC, sD]
    refine ls 6 2 0 (cS ((scalar_Norm (Sc.mk (P.mk (x0 &&& ~~~x1) x1) (P.mk (x0 - (minU x2 x0)) (x0 + (minU x3 (18446744073709551615#64 - x0)))) (P.mk 9223372036854775808#64 x0))).1)) rfl rfl rfl (by intro x hx; obtain ⟨⟨_, z0, q0⟩, ⟨_, z1, q1⟩, ⟨_, z2, q2⟩, ⟨_, z3, q3⟩, ⟨_, z4, q4⟩, ⟨_, z5, q5⟩⟩ := hx.at6 2 0 rfl; go_simp; (first | done | rfl)) ?_
    simp only [Blk.putC, setM, cS, sA, sB]
    refine la 7 54 rfl rfl rfl rfl ?_
    simp only [sA, sB]
    clear HS
    refine ld fun W7 HS => ?_
    go_upto_region 8 with fail
    refine lnb HS.out rfl ?_
    refine lm 0 12 rfl rfl rfl rfl ?_
    simp only [sA, sB]
    refine lv 1 (.bool ((!((scalar_Norm (Sc.mk (P.mk (x0 &&& ~~~x1) x1) (P.mk (x0 - (minU x2 x0)) (x0 + (minU x3 (18446744073709551615#64 - x0)))) (P.mk 9223372036854775808#64 x0))).2)))) rfl rfl (by intro x hx; go_simp; (first | done | exact rfl)) ?_
    simp only [sA, sB]
    clear HS
    refine ld fun W8 HS => ?_
    cases h3 : ((!((scalar_Norm (Sc.mk (P.mk (x0 &&& ~~~x1) x1) (P.mk (x0 - (minU x2 x0)) (x0 + (minU x3 (18446744073709551615#64 - x0)))) (P.mk 9223372036854775808#64 x0))).2)))
    ·replace h3 := hid h3
     go_upto_region 10 with fail
     refine lnb HS.out rfl ?_
     refine lv 0 (vS ((scalar_Norm (Sc.mk (P.mk (x0 &&& ~~~x1) x1) (P.mk (x0 - (minU x2 x0)) (x0 + (minU x3 (18446744073709551615#64 - x0)))) (P.mk 9223372036854775808#64 x0))).1)) rfl rfl (by intro x hx; obtain ⟨f0, f1, f2, f3, f4, f5⟩ := hx.six 2 0 rfl rfl; go_simp; (first | done | exact rfl)) ?_
     simp only [sA, sB, vS]
     refine ls 1 0 0 (cS ((scalar_Norm (Sc.mk (P.mk (x0 &&& ~~~x1) x1) (P.mk (x0 - (minU x2 x0)) (x0 + (minU x3 (18446744073709551615#64 - x0)))) (P.mk 9223372036854775808#64 x0))).1)) rfl rfl rfl (by intro x hx; obtain ⟨⟨_, z0, q0⟩, ⟨_, z1, q1⟩, ⟨_, z2, q2⟩, ⟨_, z3, q3⟩, ⟨_, z4, q4⟩, ⟨_, z5, q5⟩⟩ := hx.at6 0 0 rfl; go_simp; (first | done | rfl)) ?_
     simp only [Blk.putC, setM, cS, sA, sB]
     clear HS
     refine ld fun W9 HS => ?_
     go_wp2
     obtain ⟨r0, r1, r2, r3, r4, r5⟩ := HS.out.six 0 0 rfl rfl
     have HF : law_around x0 x1 x2 x3 = (scalar_Norm (Sc.mk (P.mk (x0 &&& ~~~x1) x1) (P.mk (x0 - (minU x2 x0)) (x0 + (minU x3 (18446744073709551615#64 - x0)))) (P.mk 9223372036854775808#64 x0))).1 := by
       unfold law_around
       rw [cond_t h1.out, cond_t h2.out, cond_f h3.out]
     exact bodyPost_ret (v := vS ((scalar_Norm (Sc.mk (P.mk (x0 &&& ~~~x1) x1) (P.mk (x0 - (minU x2 x0)) (x0 + (minU x3 (18446744073709551615#64 - x0)))) (P.mk 9223372036854775808#64 x0))).1)) (by simp [results, Tryz.results82, go_sem, r0, r1, r2, r3, r4, r5, vS]) rfl ⟨(by first | (rw [HF]; done) | (rw [HF]; rfl)), HS.out.below⟩
    ·replace h3 := hid h3
     go_upto_region 9 with fail
     refine lnb HS.out rfl ?_
     refine lc 0 25 #[] (vS scalar_All) rfl rfl (by intro x hx; exact scalar_All_any _) ?_
     simp only [sA, sB, vS]
     refine ls 1 0 0 (cS scalar_All) rfl rfl rfl (by intro x hx; obtain ⟨⟨_, z0, q0⟩, ⟨_, z1, q1⟩, ⟨_, z2, q2⟩, ⟨_, z3, q3⟩, ⟨_, z4, q4⟩, ⟨_, z5, q5⟩⟩ := hx.at6 0 0 rfl; go_simp; (first | done | rfl)) ?_
     simp only [Blk.putC, setM, cS, sA, sB]
     clear HS
     refine ld fun W9 HS => ?_
     go_wp2
     obtain ⟨r0, r1, r2, r3, r4, r5⟩ := HS.out.six 0 0 rfl rfl
     have HF : law_around x0 x1 x2 x3 = scalar_All := by
       unfold law_around
       rw [cond_t h1.out, cond_t h2.out, cond_t h3.out]
     exact bodyPost_ret (v := vS scalar_All) (by simp [results, Tryz.results82, go_sem, r0, r1, r2, r3, r4, r5, vS]) rfl ⟨(by first | (rw [HF]; done) | (rw [HF]; rfl)), HS.out.below⟩
set_option maxRecDepth 100000 in
set_option maxHeartbeats 1000000 in
theorem law_scalars_any (x0 : Pr)   (w : World) :
    Calls Tryz.prog 21 #[.agg #[.int .u64 (tn (x0.V)), .int .u64 (tn (x0.W)), .int .u64 (tn (x0.Mask)), .int .u64 (tn (x0.Other)), .int .u64 (tn (x0.Down)), .int .u64 (tn (x0.Up)), .int .u64 (tn (x0.Less)), .int .u64 (tn (x0.More))]] w fun e w' => e = .returned (.tuple #[vS (law_around x0.V x0.Mask x0.Down x0.Up), vS (law_around x0.W x0.Other x0.Less x0.More)]) ∧ Below w.heap.size w w' := by
  simp only [vS]
  go_enter Tryz.func21, Tryz.ntmps21
  have HS : Hid (St w [⟨w.heap.size, [some (.int .u64 (tn (x0.V))), some (.int .u64 (tn (x0.W))), some (.int .u64 (tn (x0.Mask))), some (.int .u64 (tn (x0.Other))), some (.int .u64 (tn (x0.Down))), some (.int .u64 (tn (x0.Up))), some (.int .u64 (tn (x0.Less))), some (.int .u64 (tn (x0.More)))], 43⟩, ⟨w.heap.size + 1, [some (.int .u64 0), some (.int .u64 0), some (.int .u64 0), some (.int .u64 0), some (.int .i64 0), some (.int .i64 0)], 30⟩, ⟨w.heap.size + 2, [some (.int .u64 0), some (.int .u64 0), some (.int .u64 0), some (.int .u64 0), some (.int .i64 0), some (.int .i64 0)], 30⟩] _) := hid ((((st_nil w).alloc (k := w.heap.size) rfl [.int .u64 (tn (x0.V)), .int .u64 (tn (x0.W)), .int .u64 (tn (x0.Mask)), .int .u64 (tn (x0.Other)), .int .u64 (tn (x0.Down)), .int .u64 (tn (x0.Up)), .int .u64 (tn (x0.Less)), .int .u64 (tn (x0.More))] 43).alloc (k := w.heap.size + 1) (by simp) [.int .u64 0, .int .u64 0, .int .u64 0, .int .u64 0, .int .i64 0, .int .i64 0] 30).alloc (k := w.heap.size + 2) (by simp) [.int .u64 0, .int .u64 0, .int .u64 0, .int .u64 0, .int .i64 0, .int .i64 0] 30)
  go_upto_region 1 with fail
  refine upb 20 (((HS.out.drew.forget 1 0 6 rfl).forget 2 0 6 rfl)) rfl ?_
  simp only [Blk.dropC, noneM, sA, sB]
  refine tv 0 (.pointer (some ⟨w.heap.size, 0, none⟩)) rfl rfl (by intro x hx; go_simp; (first | done | exact rfl)) ?_
  simp only [sA, sB]
  refine tv 1 (.int .u64 (tn (x0.V))) rfl rfl (by intro x hx; have f0 := hx.load 0 0 rfl rfl; go_simp; (first | done | exact rfl)) ?_
  simp only [sA, sB]
  refine tv 2 (.pointer (some ⟨w.heap.size, 2, none⟩)) rfl rfl (by intro x hx; go_simp; (first | done | exact rfl)) ?_
  simp only [sA, sB]
  refine tv 3 (.int .u64 (tn (x0.Mask))) rfl rfl (by intro x hx; have f0 := hx.load 0 2 rfl rfl; go_simp; (first | done | exact rfl)) ?_
  simp only [sA, sB]
  refine tv 4 (.pointer (some ⟨w.heap.size, 4, none⟩)) rfl rfl (by intro x hx; go_simp; (first | done | exact rfl)) ?_
  simp only [sA, sB]
  refine tv 5 (.int .u64 (tn (x0.Down))) rfl rfl (by intro x hx; have f0 := hx.load 0 4 rfl rfl; go_simp; (first | done | exact rfl)) ?_
  simp only [sA, sB]
  refine tv 6 (.pointer (some ⟨w.heap.size, 5, none⟩)) rfl rfl (by intro x hx; go_simp; (first | done | exact rfl)) ?_
  simp only [sA, sB]
  refine tv 7 (.int .u64 (tn (x0.Up))) rfl rfl (by intro x hx; have f0 := hx.load 0 5 rfl rfl; go_simp; (first | done | exact rfl)) ?_
  simp only [sA, sB]
  refine tc 8 82 #[.int .u64 (tn (x0.V)), .int .u64 (tn (x0.Mask)), .int .u64 (tn (x0.Down)), .int .u64 (tn (x0.Up))] (vS (law_around x0.V x0.Mask x0.Down x0.Up)) rfl rfl (by intro x hx; exact law_around_any x0.V x0.Mask x0.Down x0.Up _) ?_
  simp only [sA, sB, vS]
  refine tv 9 (.pointer (some ⟨w.heap.size, 1, none⟩)) rfl rfl (by intro x hx; go_simp; (first | done | exact rfl)) ?_
  simp only [sA, sB]
  refine tv 10 (.int .u64 (tn (x0.W))) rfl rfl (by intro x hx; have f0 := hx.load 0 1 rfl rfl; go_simp; (first | done | exact rfl)) ?_
  simp only [sA, sB]
  refine tv 11 (.pointer (some ⟨w.heap.size, 3, none⟩)) rfl rfl (by intro x hx; go_simp; (first | done | exact rfl)) ?_
  simp only [sA, sB]
  refine tv 12 (.int .u64 (tn (x0.Other))) rfl rfl (by intro x hx; have f0 := hx.load 0 3 rfl rfl; go_simp; (first | done | exact rfl)) ?_
  simp only [sA, sB]
  refine tv 13 (.pointer (some ⟨w.heap.size, 6, none⟩)) rfl rfl (by intro x hx; go_simp; (first | done | exact rfl)) ?_
  simp only [sA, sB]
  refine tv 14 (.int .u64 (tn (x0.Less))) rfl rfl (by intro x hx; have f0 := hx.load 0 6 rfl rfl; go_simp; (first | done | exact rfl)) ?_
  simp only [sA, sB]
  refine tv 15 (.pointer (some ⟨w.heap.size, 7, none⟩)) rfl rfl (by intro x hx; go_simp; (first | done | exact rfl)) ?_
  simp only [sA, sB]
  refine tv 16 (.int .u64 (tn (x0.More))) rfl rfl (by intro x hx; have f0 := hx.load 0 7 rfl rfl; go_simp; (first | done | exact rfl)) ?_
  simp only [sA, sB]
  refine tc 17 82 #[.int .u64 (tn (x0.W)), .int .u64 (tn (x0.Other)), .int .u64 (tn (x0.Less)), .int .u64 (tn (x0.More))] (vS (law_around x0.W x0.Other x0.Less x0.More)) rfl rfl (by intro x hx; exact law_around_any x0.W x0.Other x0.Less x0.More _) ?_
  simp only [sA, sB, vS]
  refine ts 18 1 0 (cS (law_around x0.V x0.Mask x0.Down x0.Up)) rfl rfl rfl (by intro x hx; obtain ⟨⟨_, z0, q0⟩, ⟨_, z1, q1⟩, ⟨_, z2, q2⟩, ⟨_, z3, q3⟩, ⟨_, z4, q4⟩, ⟨_, z5, q5⟩⟩ := hx.at6 1 0 rfl; go_simp; (first | done | rfl)) ?_
  simp only [Blk.putC, setM, cS, sA, sB]
  refine ts 19 2 0 (cS (law_around x0.W x0.Other x0.Less x0.More)) rfl rfl rfl (by intro x hx; obtain ⟨⟨_, z0, q0⟩, ⟨_, z1, q1⟩, ⟨_, z2, q2⟩, ⟨_, z3, q3⟩, ⟨_, z4, q4⟩, ⟨_, z5, q5⟩⟩ := hx.at6 2 0 rfl; go_simp; (first | done | rfl)) ?_
  simp only [Blk.putC, setM, cS, sA, sB]
  clear HS
  refine td fun W1 HS => ?_
  go_wp2
  obtain ⟨r0, r1, r2, r3, r4, r5⟩ := HS.out.six 1 0 rfl rfl
  obtain ⟨r6, r7, r8, r9, r10, r11⟩ := HS.out.six 2 0 rfl rfl
  exact bodyPost_ret (v := .tuple #[vS (law_around x0.V x0.Mask x0.Down x0.Up), vS (law_around x0.W x0.Other x0.Less x0.More)]) (by simp [results, Tryz.results21, go_sem, r0, r1, r2, r3, r4, r5, r6, r7, r8, r9, r10, r11, vS]) rfl ⟨rfl, HS.out.below⟩
end Go.Proofs.YtdjgjeffdjjbiaaGreatDoor.Sp
