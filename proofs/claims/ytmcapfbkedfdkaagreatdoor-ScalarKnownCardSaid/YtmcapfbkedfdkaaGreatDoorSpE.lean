/-
  The contracts of span's calls: what leans on the length of numbers.
-/
import Derived.Deep.DeepCutAuto
import Derived.Test.YtmcapfbkedfdkaaGreatDoorSpN
namespace Go.Proofs.YtmcapfbkedfdkaaGreatDoor.Sp
set_option maxRecDepth 100000
set_option maxHeartbeats 1000000
open Go.RowKit Go.Proofs.YtmcapfbkedfdkaaGreatDoor.Num Go.Proofs.YtmcapfbkedfdkaaGreatDoor.Up
theorem span_ones_any (x0 : BitVec 64)   (w : World) :
  Calls Tryz.prog 105 #[.int .u64 (tn (x0))] w fun e w' => e = .returned (.int .u64 (tn (((1#64 <<< (bits_Len64 x0).toNat) - 1#64)))) ∧ Below w.heap.size w w' := by
 go_enter Tryz.func105, Tryz.ntmps105
 have HS : Hid (St w [] _) := hid (st_nil w)
 go_upto_region 1 with fail
 refine lnb HS.out rfl ?_
 refine lm 0 0 rfl rfl rfl rfl ?_
 simp only [sA, sB]
 refine lc 1 123 #[.int .u64 (tn (x0))] (.int .i64 (ti (bits_Len64 x0))) rfl rfl (by intro x hx; exact bits_Len64_any x0 _) ?_
 simp only [sA, sB]
 refine lv 2 (.int .u64 (tn (1#64 <<< (bits_Len64 x0).toNat))) rfl rfl (by intro x hx; have hy := len_nn x0; go_simp; (first | done | exact shl1I (bits_Len64 x0) hy | exact shlUI 1#64 (bits_Len64 x0) hy | exact congrArg _ (shlUI 1#64 (bits_Len64 x0) hy) | (rw [shlUI 1#64 (bits_Len64 x0) hy]; done) | (rw [shlUI 1#64 (bits_Len64 x0) hy]; rfl))) ?_
 simp only [sA, sB]
 refine lv 3 (.int .u64 (tn ((1#64 <<< (bits_Len64 x0).toNat) - 1#64))) rfl rfl (by intro x hx; go_simp; (first | done | exact subUT (1#64 <<< (bits_Len64 x0).toNat) 1#64 | exact congrArg _ (subUT (1#64 <<< (bits_Len64 x0).toNat) 1#64) | (rw [subUT (1#64 <<< (bits_Len64 x0).toNat) 1#64]; done) | (rw [subUT (1#64 <<< (bits_Len64 x0).toNat) 1#64]; rfl))) ?_
 simp only [sA, sB]
 refine la 4 6 rfl rfl rfl rfl ?_
 simp only [sA, sB]
 clear HS
 refine ld fun W1 HS => ?_
 go_wp2
 exact bodyPost_ret (v := .int .u64 (tn ((1#64 <<< (bits_Len64 x0).toNat) - 1#64))) (by simp [results, Tryz.results105, go_sem]) rfl ⟨rfl, HS.out.below⟩
theorem span_Or_any (x0 : P) (x1 : P)   (w : World) :
  Calls Tryz.prog 70 #[vU x0, vU x1] w fun e w' => e = .returned (vU (P.mk (maxU x0.lo x1.lo) (onesV (maxU x0.hi x1.hi)))) ∧ Below w.heap.size w w' := by
 simp only [vU]
 go_enter Tryz.func70, Tryz.ntmps70
 have HS : Hid (St w [⟨w.heap.size, [some (.int .u64 (tn (x0.lo))), some (.int .u64 (tn (x0.hi)))], 27⟩, ⟨w.heap.size + 1, [some (.int .u64 (tn (x1.lo))), some (.int .u64 (tn (x1.hi)))], 27⟩, ⟨w.heap.size + 2, [some (.int .u64 0), some (.int .u64 0)], 27⟩] _) := hid ((((st_nil w).alloc (k := w.heap.size) rfl [.int .u64 (tn (x0.lo)), .int .u64 (tn (x0.hi))] 27).alloc (k := w.heap.size + 1) (by simp) [.int .u64 (tn (x1.lo)), .int .u64 (tn (x1.hi))] 27).alloc (k := w.heap.size + 2) (by simp) [.int .u64 0, .int .u64 0] 27)
 go_upto_region 1 with fail
 refine upb 13 (HS.out.drew.forget 2 0 2 rfl) rfl ?_
 simp only [Blk.dropC, noneM, sA, sB]
 refine tv 0 (.pointer (some ⟨w.heap.size, 0, none⟩)) rfl rfl (by intro x hx; go_simp; all_goals exact rfl) ?_
 simp only [sA, sB]
 refine tv 1 (.int .u64 (tn (x0.lo))) rfl rfl (by intro x hx; have f0 := hx.load 0 0 rfl rfl; go_simp; all_goals exact rfl) ?_
 simp only [sA, sB]
 refine tv 2 (.pointer (some ⟨w.heap.size + 1, 0, none⟩)) rfl rfl (by intro x hx; go_simp; all_goals exact rfl) ?_
 simp only [sA, sB]
 refine tv 3 (.int .u64 (tn (x1.lo))) rfl rfl (by intro x hx; have f0 := hx.load 1 0 rfl rfl; go_simp; all_goals exact rfl) ?_
 simp only [sA, sB]
 refine tv 4 (.int .u64 (tn (maxU x0.lo x1.lo))) rfl rfl (by intro x hx; go_simp; (first | done | exact maxUT x0.lo x1.lo)) ?_
 simp only [sA, sB]
 refine tv 5 (.pointer (some ⟨w.heap.size, 1, none⟩)) rfl rfl (by intro x hx; go_simp; all_goals exact rfl) ?_
 simp only [sA, sB]
 refine tv 6 (.int .u64 (tn (x0.hi))) rfl rfl (by intro x hx; have f0 := hx.load 0 1 rfl rfl; go_simp; all_goals exact rfl) ?_
 simp only [sA, sB]
 refine tv 7 (.pointer (some ⟨w.heap.size + 1, 1, none⟩)) rfl rfl (by intro x hx; go_simp; all_goals exact rfl) ?_
 simp only [sA, sB]
 refine tv 8 (.int .u64 (tn (x1.hi))) rfl rfl (by intro x hx; have f0 := hx.load 1 1 rfl rfl; go_simp; all_goals exact rfl) ?_
 simp only [sA, sB]
 refine tv 9 (.int .u64 (tn (maxU x0.hi x1.hi))) rfl rfl (by intro x hx; go_simp; (first | done | exact maxUT x0.hi x1.hi)) ?_
 simp only [sA, sB]
 refine tc 10 105 #[.int .u64 (tn (maxU x0.hi x1.hi))] (.int .u64 (tn (onesV (maxU x0.hi x1.hi)))) rfl rfl (by intro x hx; exact calls_is (span_ones_any (maxU x0.hi x1.hi) _) (by first | rw [ones_is] | exact congrArg (fun v => Value.int .u64 (tn v)) (ones_is _))) ?_
 simp only [sA, sB]
 refine tv 11 (vU (P.mk (maxU x0.lo x1.lo) (onesV (maxU x0.hi x1.hi)))) rfl rfl (by intro x hx; go_simp; all_goals exact rfl) ?_
 simp only [sA, sB, vU]
 refine ts 12 2 0 (cU (P.mk (maxU x0.lo x1.lo) (onesV (maxU x0.hi x1.hi)))) rfl rfl rfl (by intro x hx; obtain ⟨⟨_, z0, q0⟩, ⟨_, z1, q1⟩⟩ := hx.at2 2 0 rfl; go_simp; all_goals rfl) ?_
 simp only [Blk.putC, setM, cU, sA, sB]
 clear HS
 refine td fun W1 HS => ?_
 go_wp2
 obtain ⟨r0, r1⟩ := HS.out.two 2 0 rfl rfl
 exact bodyPost_ret (v := vU (P.mk (maxU x0.lo x1.lo) (onesV (maxU x0.hi x1.hi)))) (by simp [results, Tryz.results70, go_sem, r0, r1, vU]) rfl ⟨rfl, HS.out.below⟩
theorem span_Xor_any (x0 : P) (x1 : P)   (w : World) :
  Calls Tryz.prog 72 #[vU x0, vU x1] w fun e w' => e = .returned (vU (P.mk 0#64 (onesV (maxU x0.hi x1.hi)))) ∧ Below w.heap.size w w' := by
 simp only [vU]
 go_enter Tryz.func72, Tryz.ntmps72
 have HS : Hid (St w [⟨w.heap.size, [some (.int .u64 (tn (x0.lo))), some (.int .u64 (tn (x0.hi)))], 27⟩, ⟨w.heap.size + 1, [some (.int .u64 (tn (x1.lo))), some (.int .u64 (tn (x1.hi)))], 27⟩, ⟨w.heap.size + 2, [some (.int .u64 0), some (.int .u64 0)], 27⟩] _) := hid ((((st_nil w).alloc (k := w.heap.size) rfl [.int .u64 (tn (x0.lo)), .int .u64 (tn (x0.hi))] 27).alloc (k := w.heap.size + 1) (by simp) [.int .u64 (tn (x1.lo)), .int .u64 (tn (x1.hi))] 27).alloc (k := w.heap.size + 2) (by simp) [.int .u64 0, .int .u64 0] 27)
 go_upto_region 1 with fail
 refine lnb HS.out rfl ?_
 refine lv 0 (.pointer (some ⟨w.heap.size, 1, none⟩)) rfl rfl (by intro x hx; go_simp; all_goals exact rfl) ?_
 simp only [sA, sB]
 refine lv 1 (.int .u64 (tn (x0.hi))) rfl rfl (by intro x hx; have f0 := hx.load 0 1 rfl rfl; go_simp; all_goals exact rfl) ?_
 simp only [sA, sB]
 refine lv 2 (.pointer (some ⟨w.heap.size + 1, 1, none⟩)) rfl rfl (by intro x hx; go_simp; all_goals exact rfl) ?_
 simp only [sA, sB]
 refine lv 3 (.int .u64 (tn (x1.hi))) rfl rfl (by intro x hx; have f0 := hx.load 1 1 rfl rfl; go_simp; all_goals exact rfl) ?_
 simp only [sA, sB]
 refine lv 4 (.int .u64 (tn (maxU x0.hi x1.hi))) rfl rfl (by intro x hx; go_simp; (first | done | exact maxUT x0.hi x1.hi)) ?_
 simp only [sA, sB]
 refine lc 5 105 #[.int .u64 (tn (maxU x0.hi x1.hi))] (.int .u64 (tn (onesV (maxU x0.hi x1.hi)))) rfl rfl (by intro x hx; exact calls_is (span_ones_any (maxU x0.hi x1.hi) _) (by first | rw [ones_is] | exact congrArg (fun v => Value.int .u64 (tn v)) (ones_is _))) ?_
 simp only [sA, sB]
 refine lv 6 (.agg #[.int .u64 0, .int .u64 (tn (onesV (maxU x0.hi x1.hi)))]) rfl rfl (by intro x hx; go_simp; all_goals exact rfl) ?_
 simp only [sA, sB]
 refine ls 7 2 0 [.int .u64 0, .int .u64 (tn (onesV (maxU x0.hi x1.hi)))] rfl rfl rfl (by intro x hx; obtain ⟨⟨_, z0, q0⟩, ⟨_, z1, q1⟩⟩ := hx.at2 2 0 rfl; go_simp; all_goals rfl) ?_
 simp only [Blk.putC, setM, sA, sB]
 clear HS
 refine ld fun W1 HS => ?_
 go_wp2
 obtain ⟨r0, r1⟩ := HS.out.two 2 0 rfl rfl
 exact bodyPost_ret (v := .agg #[.int .u64 0, .int .u64 (tn (onesV (maxU x0.hi x1.hi)))]) (by simp [results, Tryz.results72, go_sem, r0, r1]) rfl ⟨rfl, HS.out.below⟩
theorem span_Bits_any (x0 : P)   (w : World) :
  Calls Tryz.prog 55 #[vU x0] w fun e w' => e = .returned (vU (P.mk (x0.lo &&& ~~~(onesV (x0.lo ^^^ x0.hi))) (onesV (x0.lo ^^^ x0.hi)))) ∧ Below w.heap.size w w' := by
 simp only [vU]
 go_enter Tryz.func55, Tryz.ntmps55
 have HS : Hid (St w [⟨w.heap.size, [some (.int .u64 (tn (x0.lo))), some (.int .u64 (tn (x0.hi)))], 27⟩, ⟨w.heap.size + 1, [some (.int .u64 0), some (.int .u64 0)], 25⟩] _) := hid (((st_nil w).alloc (k := w.heap.size) rfl [.int .u64 (tn (x0.lo)), .int .u64 (tn (x0.hi))] 27).alloc (k := w.heap.size + 1) (by simp) [.int .u64 0, .int .u64 0] 25)
 go_upto_region 1 with fail
 refine lnb HS.out rfl ?_
 refine lv 0 (.pointer (some ⟨w.heap.size, 0, none⟩)) rfl rfl (by intro x hx; go_simp; all_goals exact rfl) ?_
 simp only [sA, sB]
 refine lv 1 (.int .u64 (tn (x0.lo))) rfl rfl (by intro x hx; have f0 := hx.load 0 0 rfl rfl; go_simp; all_goals exact rfl) ?_
 simp only [sA, sB]
 refine lv 2 (.pointer (some ⟨w.heap.size, 1, none⟩)) rfl rfl (by intro x hx; go_simp; all_goals exact rfl) ?_
 simp only [sA, sB]
 refine lv 3 (.int .u64 (tn (x0.hi))) rfl rfl (by intro x hx; have f0 := hx.load 0 1 rfl rfl; go_simp; all_goals exact rfl) ?_
 simp only [sA, sB]
 refine lv 4 (.int .u64 (tn (x0.lo ^^^ x0.hi))) rfl rfl (by intro x hx; go_simp; (first | done | exact xorUT x0.lo x0.hi | exact congrArg _ (xorUT x0.lo x0.hi) | (rw [xorUT x0.lo x0.hi]; done) | (rw [xorUT x0.lo x0.hi]; rfl))) ?_
 simp only [sA, sB]
 refine lc 5 105 #[.int .u64 (tn (x0.lo ^^^ x0.hi))] (.int .u64 (tn (onesV (x0.lo ^^^ x0.hi)))) rfl rfl (by intro x hx; exact calls_is (span_ones_any (x0.lo ^^^ x0.hi) _) (by first | rw [ones_is] | exact congrArg (fun v => Value.int .u64 (tn v)) (ones_is _))) ?_
 simp only [sA, sB]
 refine la 6 9 rfl rfl rfl rfl ?_
 simp only [sA, sB]
 clear HS
 refine ld fun W1 HS => ?_
 go_upto_region 2 with fail
 refine lnb HS.out rfl ?_
 refine lv 0 (.pointer (some ⟨w.heap.size, 0, none⟩)) rfl rfl (by intro x hx; go_simp; all_goals exact rfl) ?_
 simp only [sA, sB]
 refine lv 1 (.int .u64 (tn (x0.lo))) rfl rfl (by intro x hx; have f0 := hx.load 0 0 rfl rfl; go_simp; all_goals exact rfl) ?_
 simp only [sA, sB]
 refine lm 2 3 rfl rfl rfl rfl ?_
 simp only [sA, sB]
 refine lv 3 (.int .u64 (tn (x0.lo &&& ~~~(onesV (x0.lo ^^^ x0.hi))))) rfl rfl (by intro x hx; go_simp; (first | done | exact andNotUT x0.lo (onesV (x0.lo ^^^ x0.hi)) | exact congrArg _ (andNotUT x0.lo (onesV (x0.lo ^^^ x0.hi))) | (rw [andNotUT x0.lo (onesV (x0.lo ^^^ x0.hi))]; done) | (rw [andNotUT x0.lo (onesV (x0.lo ^^^ x0.hi))]; rfl))) ?_
 simp only [sA, sB]
 refine lm 4 3 rfl rfl rfl rfl ?_
 simp only [sA, sB]
 refine lv 5 (vU (P.mk (x0.lo &&& ~~~(onesV (x0.lo ^^^ x0.hi))) (onesV (x0.lo ^^^ x0.hi)))) rfl rfl (by intro x hx; go_simp; all_goals exact rfl) ?_
 simp only [sA, sB, vU]
 refine ls 6 1 0 (cU (P.mk (x0.lo &&& ~~~(onesV (x0.lo ^^^ x0.hi))) (onesV (x0.lo ^^^ x0.hi)))) rfl rfl rfl (by intro x hx; obtain ⟨⟨_, z0, q0⟩, ⟨_, z1, q1⟩⟩ := hx.at2 1 0 rfl; go_simp; all_goals rfl) ?_
 simp only [Blk.putC, setM, cU, sA, sB]
 clear HS
 refine ld fun W2 HS => ?_
 go_wp2
 obtain ⟨r0, r1⟩ := HS.out.two 1 0 rfl rfl
 exact bodyPost_ret (v := vU (P.mk (x0.lo &&& ~~~(onesV (x0.lo ^^^ x0.hi))) (onesV (x0.lo ^^^ x0.hi)))) (by simp [results, Tryz.results55, go_sem, r0, r1, vU]) rfl ⟨rfl, HS.out.below⟩
end Go.Proofs.YtmcapfbkedfdkaaGreatDoor.Sp
