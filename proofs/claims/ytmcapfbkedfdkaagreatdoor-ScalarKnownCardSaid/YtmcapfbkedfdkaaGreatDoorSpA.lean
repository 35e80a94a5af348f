/-
  The contracts of span's calls: sums, meets.
-/
import Derived.Deep.DeepCutAuto
import Derived.Test.YtmcapfbkedfdkaaGreatDoorSm
namespace Go.Proofs.YtmcapfbkedfdkaaGreatDoor.Sp
set_option maxRecDepth 100000
set_option maxHeartbeats 1000000
open Go.RowKit Go.Proofs.YtmcapfbkedfdkaaGreatDoor.Num Go.Proofs.YtmcapfbkedfdkaaGreatDoor.Up
theorem span_only_uint64_any (x0 : BitVec 64)   (w : World) :
  Calls Tryz.prog 57 #[.int .u64 (tn (x0))] w fun e w' => e = .returned (vU (P.mk x0 x0)) ∧ Below w.heap.size w w' := by
 simp only [vU]
 go_enter Tryz.func57, Tryz.ntmps57
 have HS : Hid (St w [⟨w.heap.size, [some (.int .u64 0), some (.int .u64 0)], 89⟩] _) := hid ((st_nil w).alloc (k := w.heap.size) rfl [.int .u64 0, .int .u64 0] 89)
 go_upto_region 1 with fail
 refine lnb HS.out rfl ?_
 refine lm 0 0 rfl rfl rfl rfl ?_
 simp only [sA, sB]
 refine lm 1 0 rfl rfl rfl rfl ?_
 simp only [sA, sB]
 refine lv 2 (vU (P.mk x0 x0)) rfl rfl (by intro x hx; go_simp; all_goals exact rfl) ?_
 simp only [sA, sB, vU]
 refine ls 3 0 0 (cU (P.mk x0 x0)) rfl rfl rfl (by intro x hx; obtain ⟨⟨_, z0, q0⟩, ⟨_, z1, q1⟩⟩ := hx.at2 0 0 rfl; go_simp; all_goals rfl) ?_
 simp only [Blk.putC, setM, cU, sA, sB]
 clear HS
 refine ld fun W1 HS => ?_
 go_wp2
 obtain ⟨r0, r1⟩ := HS.out.two 0 0 rfl rfl
 exact bodyPost_ret (v := vU (P.mk x0 x0)) (by simp [results, Tryz.results57, go_sem, r0, r1, vU]) rfl ⟨rfl, HS.out.below⟩
theorem span_toUnsigned_any (x0 : P)   (w : World) :
  Calls Tryz.prog 56 #[vU x0] w fun e w' => e = .returned (vU x0) ∧ Below w.heap.size w w' := by
 simp only [vU]
 go_enter Tryz.func56, Tryz.ntmps56
 have HS : Hid (St w [⟨w.heap.size, [some (.int .u64 (tn (x0.lo))), some (.int .u64 (tn (x0.hi)))], 89⟩, ⟨w.heap.size + 1, [some (.int .u64 0), some (.int .u64 0)], 27⟩] _) := hid (((st_nil w).alloc (k := w.heap.size) rfl [.int .u64 (tn (x0.lo)), .int .u64 (tn (x0.hi))] 89).alloc (k := w.heap.size + 1) (by simp) [.int .u64 0, .int .u64 0] 27)
 go_upto_region 1 with fail
 refine lnb HS.out rfl ?_
 refine lv 0 (.pointer (some ⟨w.heap.size, 0, none⟩)) rfl rfl (by intro x hx; go_simp; all_goals exact rfl) ?_
 simp only [sA, sB]
 refine lv 1 (.int .u64 (tn (x0.lo))) rfl rfl (by intro x hx; have f0 := hx.load 0 0 rfl rfl; go_simp; all_goals exact rfl) ?_
 simp only [sA, sB]
 refine lv 2 (.pointer (some ⟨w.heap.size, 1, none⟩)) rfl rfl (by intro x hx; go_simp; all_goals exact rfl) ?_
 simp only [sA, sB]
 refine lv 3 (.int .u64 (tn (x0.hi))) rfl rfl (by intro x hx; have f0 := hx.load 0 1 rfl rfl; go_simp; all_goals exact rfl) ?_
 simp only [sA, sB]
 refine lv 4 (vU x0) rfl rfl (by intro x hx; go_simp; all_goals exact rfl) ?_
 simp only [sA, sB, vU]
 refine ls 5 1 0 (cU x0) rfl rfl rfl (by intro x hx; obtain ⟨⟨_, z0, q0⟩, ⟨_, z1, q1⟩⟩ := hx.at2 1 0 rfl; go_simp; all_goals rfl) ?_
 simp only [Blk.putC, setM, cU, sA, sB]
 clear HS
 refine ld fun W1 HS => ?_
 go_wp2
 obtain ⟨r0, r1⟩ := HS.out.two 1 0 rfl rfl
 exact bodyPost_ret (v := vU x0) (by simp [results, Tryz.results56, go_sem, r0, r1, vU]) rfl ⟨rfl, HS.out.below⟩
theorem span_Of_any (x0 : BitVec 64)   (w : World) :
  Calls Tryz.prog 20 #[.int .u64 (tn (x0))] w fun e w' => e = .returned (vU (P.mk x0 x0)) ∧ Below w.heap.size w w' := by
 simp only [vU]
 go_enter Tryz.func20, Tryz.ntmps20
 have HS : Hid (St w [⟨w.heap.size, [some (.int .u64 0), some (.int .u64 0)], 27⟩] _) := hid ((st_nil w).alloc (k := w.heap.size) rfl [.int .u64 0, .int .u64 0] 27)
 go_upto_region 1 with fail
 refine lnb HS.out rfl ?_
 refine lm 0 0 rfl rfl rfl rfl ?_
 simp only [sA, sB]
 refine lc 1 57 #[.int .u64 (tn (x0))] (vU (P.mk x0 x0)) rfl rfl (by intro x hx; exact span_only_uint64_any x0 _) ?_
 simp only [sA, sB, vU]
 refine lc 2 56 #[vU (P.mk x0 x0)] (vU (P.mk x0 x0)) rfl rfl (by intro x hx; exact span_toUnsigned_any (P.mk x0 x0) _) ?_
 simp only [sA, sB, vU]
 refine ls 3 0 0 (cU (P.mk x0 x0)) rfl rfl rfl (by intro x hx; obtain ⟨⟨_, z0, q0⟩, ⟨_, z1, q1⟩⟩ := hx.at2 0 0 rfl; go_simp; all_goals rfl) ?_
 simp only [Blk.putC, setM, cU, sA, sB]
 clear HS
 refine ld fun W1 HS => ?_
 go_wp2
 obtain ⟨r0, r1⟩ := HS.out.two 0 0 rfl rfl
 exact bodyPost_ret (v := vU (P.mk x0 x0)) (by simp [results, Tryz.results20, go_sem, r0, r1, vU]) rfl ⟨rfl, HS.out.below⟩
theorem span_All_any    (w : World) :
  Calls Tryz.prog 28 #[] w fun e w' => e = .returned (vU (P.mk 0#64 18446744073709551615#64)) ∧ Below w.heap.size w w' := by
 simp only [vU]
 go_enter Tryz.func28, Tryz.ntmps28
 have HS : Hid (St w [⟨w.heap.size, [some (.int .u64 0), some (.int .u64 0)], 27⟩] _) := hid ((st_nil w).alloc (k := w.heap.size) rfl [.int .u64 0, .int .u64 0] 27)
 go_upto_region 1 with fail
 refine lnb HS.out rfl ?_
 refine lv 0 (.agg #[.int .u64 0, .int .u64 18446744073709551615]) rfl rfl (by intro x hx; go_simp; all_goals exact rfl) ?_
 simp only [sA, sB]
 refine ls 1 0 0 [.int .u64 0, .int .u64 18446744073709551615] rfl rfl rfl (by intro x hx; obtain ⟨⟨_, z0, q0⟩, ⟨_, z1, q1⟩⟩ := hx.at2 0 0 rfl; go_simp; all_goals rfl) ?_
 simp only [Blk.putC, setM, sA, sB]
 clear HS
 refine ld fun W1 HS => ?_
 go_wp2
 obtain ⟨r0, r1⟩ := HS.out.two 0 0 rfl rfl
 exact bodyPost_ret (v := .agg #[.int .u64 0, .int .u64 18446744073709551615]) (by simp [results, Tryz.results28, go_sem, r0, r1]) rfl ⟨rfl, HS.out.below⟩
theorem span_unsigned_any (x0 : P)   (w : World) :
  Calls Tryz.prog 86 #[vU x0] w fun e w' => e = .returned (vU x0) ∧ Below w.heap.size w w' := by
 simp only [vU]
 go_enter Tryz.func86, Tryz.ntmps86
 have HS : Hid (St w [⟨w.heap.size, [some (.int .u64 (tn (x0.lo))), some (.int .u64 (tn (x0.hi)))], 27⟩, ⟨w.heap.size + 1, [some (.int .u64 0), some (.int .u64 0)], 89⟩] _) := hid (((st_nil w).alloc (k := w.heap.size) rfl [.int .u64 (tn (x0.lo)), .int .u64 (tn (x0.hi))] 27).alloc (k := w.heap.size + 1) (by simp) [.int .u64 0, .int .u64 0] 89)
 go_upto_region 1 with fail
 refine lnb HS.out rfl ?_
 refine lv 0 (.pointer (some ⟨w.heap.size, 0, none⟩)) rfl rfl (by intro x hx; go_simp; all_goals exact rfl) ?_
 simp only [sA, sB]
 refine lv 1 (.int .u64 (tn (x0.lo))) rfl rfl (by intro x hx; have f0 := hx.load 0 0 rfl rfl; go_simp; all_goals exact rfl) ?_
 simp only [sA, sB]
 refine lv 2 (.pointer (some ⟨w.heap.size, 1, none⟩)) rfl rfl (by intro x hx; go_simp; all_goals exact rfl) ?_
 simp only [sA, sB]
 refine lv 3 (.int .u64 (tn (x0.hi))) rfl rfl (by intro x hx; have f0 := hx.load 0 1 rfl rfl; go_simp; all_goals exact rfl) ?_
 simp only [sA, sB]
 refine lv 4 (vU x0) rfl rfl (by intro x hx; go_simp; all_goals exact rfl) ?_
 simp only [sA, sB, vU]
 refine ls 5 1 0 (cU x0) rfl rfl rfl (by intro x hx; obtain ⟨⟨_, z0, q0⟩, ⟨_, z1, q1⟩⟩ := hx.at2 1 0 rfl; go_simp; all_goals rfl) ?_
 simp only [Blk.putC, setM, cU, sA, sB]
 clear HS
 refine ld fun W1 HS => ?_
 go_wp2
 obtain ⟨r0, r1⟩ := HS.out.two 1 0 rfl rfl
 exact bodyPost_ret (v := vU x0) (by simp [results, Tryz.results86, go_sem, r0, r1, vU]) rfl ⟨rfl, HS.out.below⟩
def span_within_uint64 (x0 : P) (x1 : P)  : Bool :=
 bif leU x1.lo x0.lo then (leU x0.hi x1.hi) else (false)
theorem span_within_uint64_any (x0 : P) (x1 : P)   (w : World) :
   Calls Tryz.prog 85 #[vU x0, vU x1] w fun e w' => e = .returned (.bool (span_within_uint64 x0 x1)) ∧ Below w.heap.size w w' := by
 simp only [vU]
 go_enter Tryz.func85, Tryz.ntmps85
 have HS : Hid (St w [⟨w.heap.size, [some (.int .u64 (tn (x0.lo))), some (.int .u64 (tn (x0.hi)))], 89⟩, ⟨w.heap.size + 1, [some (.int .u64 (tn (x1.lo))), some (.int .u64 (tn (x1.hi)))], 89⟩] _) := hid (((st_nil w).alloc (k := w.heap.size) rfl [.int .u64 (tn (x0.lo)), .int .u64 (tn (x0.hi))] 89).alloc (k := w.heap.size + 1) (by simp) [.int .u64 (tn (x1.lo)), .int .u64 (tn (x1.hi))] 89)
 go_upto_region 1 with fail
 refine lnb HS.out rfl ?_
 refine lv 0 (.pointer (some ⟨w.heap.size + 1, 0, none⟩)) rfl rfl (by intro x hx; go_simp; all_goals exact rfl) ?_
 simp only [sA, sB]
 refine lv 1 (.int .u64 (tn (x1.lo))) rfl rfl (by intro x hx; have f0 := hx.load 1 0 rfl rfl; go_simp; all_goals exact rfl) ?_
 simp only [sA, sB]
 refine lv 2 (.pointer (some ⟨w.heap.size, 0, none⟩)) rfl rfl (by intro x hx; go_simp; all_goals exact rfl) ?_
 simp only [sA, sB]
 refine lv 3 (.int .u64 (tn (x0.lo))) rfl rfl (by intro x hx; have f0 := hx.load 0 0 rfl rfl; go_simp; all_goals exact rfl) ?_
 simp only [sA, sB]
 refine lv 4 (.bool (leU x1.lo x0.lo)) rfl rfl (by intro x hx; go_simp; (first | done | exact leUT x1.lo x0.lo | exact congrArg _ (leUT x1.lo x0.lo) | (rw [leUT x1.lo x0.lo]; done) | (rw [leUT x1.lo x0.lo]; rfl))) ?_
 simp only [sA, sB]
 refine lm 5 9 rfl rfl rfl rfl ?_
 simp only [sA, sB]
 cases h1 : (leU x1.lo x0.lo)
 ·replace h1 := hid h1
  refine lin_no (i := 6) rfl rfl (by kernel_rfl) ?_
  simp only [sA, sB]
  refine lin_no (i := 7) rfl rfl (by kernel_rfl) ?_
  simp only [sA, sB]
  refine lin_no (i := 8) rfl rfl (by kernel_rfl) ?_
  simp only [sA, sB]
  refine lin_no (i := 9) rfl rfl (by kernel_rfl) ?_
  simp only [sA, sB]
  refine lin_no (i := 10) rfl rfl (by kernel_rfl) ?_
  simp only [sA, sB]
  refine lv 11 (.bool false) rfl rfl (by intro x hx; go_simp; all_goals exact rfl) ?_
  simp only [sA, sB]
  refine la 12 16 rfl rfl rfl rfl ?_
  simp only [sA, sB]
  clear HS
  refine ld fun W1 HS => ?_
  go_wp2
  have HF : span_within_uint64 x0 x1 = false := by
    unfold span_within_uint64
    rw [cond_f h1.out]
  exact bodyPost_ret (v := .bool false) (by simp [results, Tryz.results85, go_sem]) rfl ⟨(by first | (rw [HF]; done) | (rw [HF]; rfl)), HS.out.below⟩
 ·replace h1 := hid h1
  refine lv 6 (.pointer (some ⟨w.heap.size, 1, none⟩)) rfl rfl (by intro x hx; go_simp; all_goals exact rfl) ?_
  simp only [sA, sB]
  refine lv 7 (.int .u64 (tn (x0.hi))) rfl rfl (by intro x hx; have f0 := hx.load 0 1 rfl rfl; go_simp; all_goals exact rfl) ?_
  simp only [sA, sB]
  refine lv 8 (.pointer (some ⟨w.heap.size + 1, 1, none⟩)) rfl rfl (by intro x hx; go_simp; all_goals exact rfl) ?_
  simp only [sA, sB]
  refine lv 9 (.int .u64 (tn (x1.hi))) rfl rfl (by intro x hx; have f0 := hx.load 1 1 rfl rfl; go_simp; all_goals exact rfl) ?_
  simp only [sA, sB]
  refine lv 10 (.bool (leU x0.hi x1.hi)) rfl rfl (by intro x hx; go_simp; (first | done | exact leUT x0.hi x1.hi | exact congrArg _ (leUT x0.hi x1.hi) | (rw [leUT x0.hi x1.hi]; done) | (rw [leUT x0.hi x1.hi]; rfl))) ?_
  simp only [sA, sB]
  refine lv 11 (.bool (leU x0.hi x1.hi)) rfl rfl (by intro x hx; go_simp; all_goals exact rfl) ?_
  simp only [sA, sB]
  refine la 12 16 rfl rfl rfl rfl ?_
  simp only [sA, sB]
  clear HS
  refine ld fun W1 HS => ?_
  go_wp2
  have HF : span_within_uint64 x0 x1 = leU x0.hi x1.hi := by
    unfold span_within_uint64
    rw [cond_t h1.out]
  exact bodyPost_ret (v := .bool (leU x0.hi x1.hi)) (by simp [results, Tryz.results85, go_sem]) rfl ⟨(by first | (rw [HF]; done) | (rw [HF]; rfl)), HS.out.below⟩
theorem span_In_any (x0 : P) (x1 : BitVec 64)   (w : World) :
  Calls Tryz.prog 33 #[vU x0, .int .u64 (tn (x1))] w fun e w' => e = .returned (.bool ((span_within_uint64 (P.mk x1 x1) x0))) ∧ Below w.heap.size w w' := by
 simp only [vU]
 go_enter Tryz.func33, Tryz.ntmps33
 have HS : Hid (St w [⟨w.heap.size, [some (.int .u64 (tn (x0.lo))), some (.int .u64 (tn (x0.hi)))], 27⟩] _) := hid ((st_nil w).alloc (k := w.heap.size) rfl [.int .u64 (tn (x0.lo)), .int .u64 (tn (x0.hi))] 27)
 go_upto_region 1 with fail
 refine upb 6 (HS.out.drew) rfl ?_
 refine tm 0 1 rfl rfl rfl rfl ?_
 simp only [sA, sB]
 refine tc 1 57 #[.int .u64 (tn (x1))] (vU (P.mk x1 x1)) rfl rfl (by intro x hx; exact span_only_uint64_any x1 _) ?_
 simp only [sA, sB, vU]
 refine tv 2 (vU x0) rfl rfl (by intro x hx; obtain ⟨f0, f1⟩ := hx.two 0 0 rfl rfl; go_simp; all_goals exact rfl) ?_
 simp only [sA, sB, vU]
 refine tc 3 86 #[vU x0] (vU x0) rfl rfl (by intro x hx; exact span_unsigned_any x0 _) ?_
 simp only [sA, sB, vU]
 refine tc 4 85 #[vU (P.mk x1 x1), vU x0] (.bool (span_within_uint64 (P.mk x1 x1) x0)) rfl rfl (by intro x hx; exact span_within_uint64_any (P.mk x1 x1) x0 _) ?_
 simp only [sA, sB]
 refine ta 5 9 rfl rfl rfl rfl ?_
 simp only [sA, sB]
 clear HS
 refine td fun W1 HS => ?_
 go_wp2
 exact bodyPost_ret (v := .bool (span_within_uint64 (P.mk x1 x1) x0)) (by simp [results, Tryz.results33, go_sem]) rfl ⟨rfl, HS.out.below⟩
def span_meet_uint64 (x0 : P) (x1 : P)  : P × Bool :=
 bif gtU (maxU x0.lo x1.lo) (minU x0.hi x1.hi) then ((P.mk 0#64 0#64, false)) else ((P.mk (maxU x0.lo x1.lo) (minU x0.hi x1.hi), true))
theorem span_meet_uint64_any (x0 : P) (x1 : P)   (w : World) :
   Calls Tryz.prog 98 #[vU x0, vU x1] w fun e w' => e = .returned (.tuple #[vU ((span_meet_uint64 x0 x1).1), .bool ((span_meet_uint64 x0 x1).2)]) ∧ Below w.heap.size w w' := by
 simp only [vU]
 go_enter Tryz.func98, Tryz.ntmps98
 have HS : Hid (St w [⟨w.heap.size, [some (.int .u64 (tn (x0.lo))), some (.int .u64 (tn (x0.hi)))], 89⟩, ⟨w.heap.size + 1, [some (.int .u64 (tn (x1.lo))), some (.int .u64 (tn (x1.hi)))], 89⟩, ⟨w.heap.size + 2, [some (.int .u64 0), some (.int .u64 0)], 89⟩] _) := hid ((((st_nil w).alloc (k := w.heap.size) rfl [.int .u64 (tn (x0.lo)), .int .u64 (tn (x0.hi))] 89).alloc (k := w.heap.size + 1) (by simp) [.int .u64 (tn (x1.lo)), .int .u64 (tn (x1.hi))] 89).alloc (k := w.heap.size + 2) (by simp) [.int .u64 0, .int .u64 0] 89)
 go_upto_region 1 with fail
 refine lnb HS.out rfl ?_
 refine lv 0 (.pointer (some ⟨w.heap.size, 0, none⟩)) rfl rfl (by intro x hx; go_simp; all_goals exact rfl) ?_
 simp only [sA, sB]
 refine lv 1 (.int .u64 (tn (x0.lo))) rfl rfl (by intro x hx; have f0 := hx.load 0 0 rfl rfl; go_simp; all_goals exact rfl) ?_
 simp only [sA, sB]
 refine lv 2 (.pointer (some ⟨w.heap.size + 1, 0, none⟩)) rfl rfl (by intro x hx; go_simp; all_goals exact rfl) ?_
 simp only [sA, sB]
 refine lv 3 (.int .u64 (tn (x1.lo))) rfl rfl (by intro x hx; have f0 := hx.load 1 0 rfl rfl; go_simp; all_goals exact rfl) ?_
 simp only [sA, sB]
 refine lv 4 (.int .u64 (tn (maxU x0.lo x1.lo))) rfl rfl (by intro x hx; go_simp; (first | done | exact maxUT x0.lo x1.lo)) ?_
 simp only [sA, sB]
 refine lv 5 (.pointer (some ⟨w.heap.size, 1, none⟩)) rfl rfl (by intro x hx; go_simp; all_goals exact rfl) ?_
 simp only [sA, sB]
 refine lv 6 (.int .u64 (tn (x0.hi))) rfl rfl (by intro x hx; have f0 := hx.load 0 1 rfl rfl; go_simp; all_goals exact rfl) ?_
 simp only [sA, sB]
 refine lv 7 (.pointer (some ⟨w.heap.size + 1, 1, none⟩)) rfl rfl (by intro x hx; go_simp; all_goals exact rfl) ?_
 simp only [sA, sB]
 refine lv 8 (.int .u64 (tn (x1.hi))) rfl rfl (by intro x hx; have f0 := hx.load 1 1 rfl rfl; go_simp; all_goals exact rfl) ?_
 simp only [sA, sB]
 refine lv 9 (.int .u64 (tn (minU x0.hi x1.hi))) rfl rfl (by intro x hx; go_simp; (first | done | exact minUT x0.hi x1.hi)) ?_
 simp only [sA, sB]
 refine lv 10 (vU (P.mk (maxU x0.lo x1.lo) (minU x0.hi x1.hi))) rfl rfl (by intro x hx; go_simp; all_goals exact rfl) ?_
 simp only [sA, sB, vU]
 refine lin_new (i := 11) rfl rfl (by rfl) [.int .u64 0, .int .u64 0] 89 (fun k => .pointer (some ⟨k, 0, none⟩)) [some (.int .u64 0), some (.int .u64 0)] (lessC_refl _) (by intro x hx; go_simp; all_goals exact rfl) (fun k1 => ?_)
 simp only [sA, sB, sC, sD]
 refine ls 12 3 0 (cU (P.mk (maxU x0.lo x1.lo) (minU x0.hi x1.hi))) rfl rfl rfl (by intro x hx; obtain ⟨⟨_, z0, q0⟩, ⟨_, z1, q1⟩⟩ := hx.at2 3 0 rfl; go_simp; all_goals rfl) ?_
 simp only [Blk.putC, setM, cU, sA, sB]
 clear HS
 refine ld fun W1 HS => ?_
 go_upto_region 2 with fail
 refine lnb HS.out rfl ?_
 refine lv 0 (.pointer (some ⟨k1, 0, none⟩)) rfl rfl (by intro x hx; go_simp; all_goals exact rfl) ?_
 simp only [sA, sB]
 refine lv 1 (.int .u64 (tn (maxU x0.lo x1.lo))) rfl rfl (by intro x hx; have f0 := hx.load 3 0 rfl rfl; go_simp; all_goals exact rfl) ?_
 simp only [sA, sB]
 refine lv 2 (.pointer (some ⟨k1, 1, none⟩)) rfl rfl (by intro x hx; go_simp; all_goals exact rfl) ?_
 simp only [sA, sB]
 refine lv 3 (.int .u64 (tn (minU x0.hi x1.hi))) rfl rfl (by intro x hx; have f0 := hx.load 3 1 rfl rfl; go_simp; all_goals exact rfl) ?_
 simp only [sA, sB]
 refine lv 4 (.bool (gtU (maxU x0.lo x1.lo) (minU x0.hi x1.hi))) rfl rfl (by intro x hx; go_simp; (first | done | exact gtUT (maxU x0.lo x1.lo) (minU x0.hi x1.hi) | exact congrArg _ (gtUT (maxU x0.lo x1.lo) (minU x0.hi x1.hi)) | (rw [gtUT (maxU x0.lo x1.lo) (minU x0.hi x1.hi)]; done) | (rw [gtUT (maxU x0.lo x1.lo) (minU x0.hi x1.hi)]; rfl))) ?_
 simp only [sA, sB]
 clear HS
 refine ld fun W2 HS => ?_
 cases h1 : (gtU (maxU x0.lo x1.lo) (minU x0.hi x1.hi))
 ·replace h1 := hid h1
  go_upto_region 4 with fail
  refine lnb HS.out rfl ?_
  refine lv 0 (vU (P.mk (maxU x0.lo x1.lo) (minU x0.hi x1.hi))) rfl rfl (by intro x hx; obtain ⟨f0, f1⟩ := hx.two 3 0 rfl rfl; go_simp; all_goals exact rfl) ?_
  simp only [sA, sB, vU]
  refine ls 1 2 0 (cU (P.mk (maxU x0.lo x1.lo) (minU x0.hi x1.hi))) rfl rfl rfl (by intro x hx; obtain ⟨⟨_, z0, q0⟩, ⟨_, z1, q1⟩⟩ := hx.at2 2 0 rfl; go_simp; all_goals rfl) ?_
  simp only [Blk.putC, setM, cU, sA, sB]
  refine lv 2 (.bool true) rfl rfl (by intro x hx; go_simp; all_goals exact rfl) ?_
  simp only [sA, sB]
  clear HS
  refine ld fun W3 HS => ?_
  go_wp2
  obtain ⟨r0, r1⟩ := HS.out.two 2 0 rfl rfl
  have HF : span_meet_uint64 x0 x1 = (P.mk (maxU x0.lo x1.lo) (minU x0.hi x1.hi), true) := by
    unfold span_meet_uint64
    rw [cond_f h1.out]
  exact bodyPost_ret (v := .tuple #[vU (P.mk (maxU x0.lo x1.lo) (minU x0.hi x1.hi)), .bool true]) (by simp [results, Tryz.results98, go_sem, r0, r1, vU]) rfl ⟨(by first | (rw [HF]; done) | (rw [HF]; rfl)), HS.out.below⟩
 ·replace h1 := hid h1
  go_upto_region 3 with fail
  refine lnb HS.out rfl ?_
  refine lv 0 (.agg #[.int .u64 0, .int .u64 0]) rfl rfl (by intro x hx; go_simp; all_goals exact rfl) ?_
  simp only [sA, sB]
  refine ls 1 2 0 [.int .u64 0, .int .u64 0] rfl rfl rfl (by intro x hx; obtain ⟨⟨_, z0, q0⟩, ⟨_, z1, q1⟩⟩ := hx.at2 2 0 rfl; go_simp; all_goals rfl) ?_
  simp only [Blk.putC, setM, sA, sB]
  refine lv 2 (.bool false) rfl rfl (by intro x hx; go_simp; all_goals exact rfl) ?_
  simp only [sA, sB]
  clear HS
  refine ld fun W3 HS => ?_
  go_wp2
  obtain ⟨r0, r1⟩ := HS.out.two 2 0 rfl rfl
  have HF : span_meet_uint64 x0 x1 = (P.mk 0#64 0#64, false) := by
    unfold span_meet_uint64
    rw [cond_t h1.out]
  exact bodyPost_ret (v := .tuple #[.agg #[.int .u64 0, .int .u64 0], .bool false]) (by simp [results, Tryz.results98, go_sem, r0, r1]) rfl ⟨(by first | (rw [HF]; done) | (rw [HF]; rfl)), HS.out.below⟩
theorem span_Meet_any (x0 : P) (x1 : P)   (w : World) :
  Calls Tryz.prog 44 #[vU x0, vU x1] w fun e w' => e = .returned (.tuple #[vU ((span_meet_uint64 x0 x1).1), .bool ((span_meet_uint64 x0 x1).2)]) ∧ Below w.heap.size w w' := by
 simp only [vU]
 go_enter Tryz.func44, Tryz.ntmps44
 have HS : Hid (St w [⟨w.heap.size, [some (.int .u64 (tn (x0.lo))), some (.int .u64 (tn (x0.hi)))], 27⟩, ⟨w.heap.size + 1, [some (.int .u64 (tn (x1.lo))), some (.int .u64 (tn (x1.hi)))], 27⟩, ⟨w.heap.size + 2, [some (.int .u64 0), some (.int .u64 0)], 27⟩] _) := hid ((((st_nil w).alloc (k := w.heap.size) rfl [.int .u64 (tn (x0.lo)), .int .u64 (tn (x0.hi))] 27).alloc (k := w.heap.size + 1) (by simp) [.int .u64 (tn (x1.lo)), .int .u64 (tn (x1.hi))] 27).alloc (k := w.heap.size + 2) (by simp) [.int .u64 0, .int .u64 0] 27)
 go_upto_region 1 with fail
 refine upb 11 (HS.out.drew) rfl ?_
 refine tv 0 (vU x0) rfl rfl (by intro x hx; obtain ⟨f0, f1⟩ := hx.two 0 0 rfl rfl; go_simp; all_goals exact rfl) ?_
 simp only [sA, sB, vU]
 refine tc 1 86 #[vU x0] (vU x0) rfl rfl (by intro x hx; exact span_unsigned_any x0 _) ?_
 simp only [sA, sB, vU]
 refine tv 2 (vU x1) rfl rfl (by intro x hx; obtain ⟨f0, f1⟩ := hx.two 1 0 rfl rfl; go_simp; all_goals exact rfl) ?_
 simp only [sA, sB, vU]
 refine tc 3 86 #[vU x1] (vU x1) rfl rfl (by intro x hx; exact span_unsigned_any x1 _) ?_
 simp only [sA, sB, vU]
 refine tc 4 98 #[vU x0, vU x1] (.tuple #[vU ((span_meet_uint64 x0 x1).1), .bool ((span_meet_uint64 x0 x1).2)]) rfl rfl (by intro x hx; exact span_meet_uint64_any x0 x1 _) ?_
 simp only [sA, sB, vU]
 refine tm 5 13 rfl rfl rfl rfl ?_
 simp only [sA, sB]
 refine tv 6 (vU ((span_meet_uint64 x0 x1).1)) rfl rfl (by intro x hx; go_simp; all_goals exact rfl) ?_
 simp only [sA, sB, vU]
 refine tv 7 (.bool ((span_meet_uint64 x0 x1).2)) rfl rfl (by intro x hx; go_simp; all_goals exact rfl) ?_
 simp only [sA, sB]
 refine take_one (i := 8) (by kernel_rfl) (step_new rfl rfl (by rfl) [.int .u64 0, .int .u64 0] 89 (fun k => .pointer (some ⟨k, 0, none⟩)) [none, none] (lessC_no (lessC_no (trivial))) (by intro x hx; go_simp; all_goals exact rfl) (fun k1 => ?_))
 simp only [sA, sB, sC, sD]
 refine ts 9 3 0 (cU ((span_meet_uint64 x0 x1).1)) rfl rfl rfl (by intro x hx; obtain ⟨⟨_, z0, q0⟩, ⟨_, z1, q1⟩⟩ := hx.at2 3 0 rfl; go_simp; all_goals rfl) ?_
 simp only [Blk.putC, setM, cU, sA, sB]
 refine ta 10 15 rfl rfl rfl rfl ?_
 simp only [sA, sB]
 clear HS
 refine td fun W1 HS => ?_
 go_upto_region 2 with fail
 refine lnb HS.out rfl ?_
 refine lv 0 (vU ((span_meet_uint64 x0 x1).1)) rfl rfl (by intro x hx; obtain ⟨f0, f1⟩ := hx.two 3 0 rfl rfl; go_simp; all_goals exact rfl) ?_
 simp only [sA, sB, vU]
 refine lc 1 56 #[vU ((span_meet_uint64 x0 x1).1)] (vU ((span_meet_uint64 x0 x1).1)) rfl rfl (by intro x hx; exact span_toUnsigned_any ((span_meet_uint64 x0 x1).1) _) ?_
 simp only [sA, sB, vU]
 refine lm 2 7 rfl rfl rfl rfl ?_
 simp only [sA, sB]
 refine ls 3 2 0 (cU ((span_meet_uint64 x0 x1).1)) rfl rfl rfl (by intro x hx; obtain ⟨⟨_, z0, q0⟩, ⟨_, z1, q1⟩⟩ := hx.at2 2 0 rfl; go_simp; all_goals rfl) ?_
 simp only [Blk.putC, setM, cU, sA, sB]
 refine la 4 18 rfl rfl rfl rfl ?_
 simp only [sA, sB]
 clear HS
 refine ld fun W2 HS => ?_
 go_wp2
 obtain ⟨r0, r1⟩ := HS.out.two 2 0 rfl rfl
 exact bodyPost_ret (v := .tuple #[vU ((span_meet_uint64 x0 x1).1), .bool ((span_meet_uint64 x0 x1).2)]) (by simp [results, Tryz.results44, go_sem, r0, r1, vU]) rfl ⟨rfl, HS.out.below⟩
theorem span_sum_uint64_any (x0 : BitVec 64) (x1 : BitVec 64)   (w : World) :
  Calls Tryz.prog 128 #[.int .u64 (tn (x0)), .int .u64 (tn (x1))] w fun e w' => e = .returned (.tuple #[.int .u64 (tn (x0 + x1)), .bool (((geU (x0 + x1) x0) == (geU x1 0#64)))]) ∧ Below w.heap.size w w' := by
 go_enter Tryz.func128, Tryz.ntmps128
 have HS : Hid (St w [] _) := hid (st_nil w)
 go_upto_region 1 with fail
 refine lnb HS.out rfl ?_
 refine lm 0 0 rfl rfl rfl rfl ?_
 simp only [sA, sB]
 refine lm 1 1 rfl rfl rfl rfl ?_
 simp only [sA, sB]
 refine lv 2 (.int .u64 (tn (x0 + x1))) rfl rfl (by intro x hx; go_simp; (first | done | exact addUT x0 x1 | exact congrArg _ (addUT x0 x1) | (rw [addUT x0 x1]; done) | (rw [addUT x0 x1]; rfl))) ?_
 simp only [sA, sB]
 refine la 3 9 rfl rfl rfl rfl ?_
 simp only [sA, sB]
 clear HS
 refine ld fun W1 HS => ?_
 go_upto_region 2 with fail
 refine lnb HS.out rfl ?_
 refine lm 0 6 rfl rfl rfl rfl ?_
 simp only [sA, sB]
 refine lm 1 6 rfl rfl rfl rfl ?_
 simp only [sA, sB]
 refine lm 2 0 rfl rfl rfl rfl ?_
 simp only [sA, sB]
 refine lv 3 (.bool (geU (x0 + x1) x0)) rfl rfl (by intro x hx; go_simp; (first | done | exact geUT (x0 + x1) x0 | exact congrArg _ (geUT (x0 + x1) x0) | (rw [geUT (x0 + x1) x0]; done) | (rw [geUT (x0 + x1) x0]; rfl))) ?_
 simp only [sA, sB]
 refine lm 4 1 rfl rfl rfl rfl ?_
 simp only [sA, sB]
 refine lv 5 (.bool (geU x1 0#64)) rfl rfl (by intro x hx; go_simp; (first | done | exact geUT x1 0#64 | exact congrArg _ (geUT x1 0#64) | (rw [geUT x1 0#64]; done) | (rw [geUT x1 0#64]; rfl))) ?_
 simp only [sA, sB]
 refine lv 6 (.bool (((geU (x0 + x1) x0) == (geU x1 0#64)))) rfl rfl (by intro x hx; go_simp; all_goals exact rfl) ?_
 simp only [sA, sB]
 refine la 7 10 rfl rfl rfl rfl ?_
 simp only [sA, sB]
 refine la 8 16 rfl rfl rfl rfl ?_
 simp only [sA, sB]
 clear HS
 refine ld fun W2 HS => ?_
 go_wp2
 exact bodyPost_ret (v := .tuple #[.int .u64 (tn (x0 + x1)), .bool (((geU (x0 + x1) x0) == (geU x1 0#64)))]) (by simp [results, Tryz.results128, go_sem]) rfl ⟨rfl, HS.out.below⟩
def span_add_uint64 (x0 : P) (x1 : P)  : P × Bool × Bool :=
 (P.mk (x0.lo + x1.lo) (x0.hi + x1.hi), ((geU (x0.lo + x1.lo) x0.lo) == (geU x1.lo 0#64)), ((geU (x0.hi + x1.hi) x0.hi) == (geU x1.hi 0#64)))
theorem span_add_uint64_any (x0 : P) (x1 : P)   (w : World) :
  Calls Tryz.prog 108 #[vU x0, vU x1] w fun e w' => e = .returned (.tuple #[vU ((span_add_uint64 x0 x1).1), .bool ((span_add_uint64 x0 x1).2.1), .bool ((span_add_uint64 x0 x1).2.2)]) ∧ Below w.heap.size w w' := by
 simp only [vU]
 go_enter Tryz.func108, Tryz.ntmps108
 have HS : Hid (St w [⟨w.heap.size, [some (.int .u64 (tn (x0.lo))), some (.int .u64 (tn (x0.hi)))], 89⟩, ⟨w.heap.size + 1, [some (.int .u64 (tn (x1.lo))), some (.int .u64 (tn (x1.hi)))], 89⟩, ⟨w.heap.size + 2, [some (.int .u64 0), some (.int .u64 0)], 89⟩] _) := hid ((((st_nil w).alloc (k := w.heap.size) rfl [.int .u64 (tn (x0.lo)), .int .u64 (tn (x0.hi))] 89).alloc (k := w.heap.size + 1) (by simp) [.int .u64 (tn (x1.lo)), .int .u64 (tn (x1.hi))] 89).alloc (k := w.heap.size + 2) (by simp) [.int .u64 0, .int .u64 0] 89)
 go_upto_region 1 with fail
 refine lnb HS.out rfl ?_
 refine lv 0 (.pointer (some ⟨w.heap.size, 0, none⟩)) rfl rfl (by intro x hx; go_simp; all_goals exact rfl) ?_
 simp only [sA, sB]
 refine lv 1 (.int .u64 (tn (x0.lo))) rfl rfl (by intro x hx; have f0 := hx.load 0 0 rfl rfl; go_simp; all_goals exact rfl) ?_
 simp only [sA, sB]
 refine lv 2 (.pointer (some ⟨w.heap.size + 1, 0, none⟩)) rfl rfl (by intro x hx; go_simp; all_goals exact rfl) ?_
 simp only [sA, sB]
 refine lv 3 (.int .u64 (tn (x1.lo))) rfl rfl (by intro x hx; have f0 := hx.load 1 0 rfl rfl; go_simp; all_goals exact rfl) ?_
 simp only [sA, sB]
 refine lc 4 128 #[.int .u64 (tn (x0.lo)), .int .u64 (tn (x1.lo))] (.tuple #[.int .u64 (tn (x0.lo + x1.lo)), .bool (((geU (x0.lo + x1.lo) x0.lo) == (geU x1.lo 0#64)))]) rfl rfl (by intro x hx; exact span_sum_uint64_any x0.lo x1.lo _) ?_
 simp only [sA, sB]
 refine lm 5 12 rfl rfl rfl rfl ?_
 simp only [sA, sB]
 refine lv 6 (.int .u64 (tn (x0.lo + x1.lo))) rfl rfl (by intro x hx; go_simp; all_goals exact rfl) ?_
 simp only [sA, sB]
 refine lv 7 (.bool (((geU (x0.lo + x1.lo) x0.lo) == (geU x1.lo 0#64)))) rfl rfl (by intro x hx; go_simp; all_goals exact rfl) ?_
 simp only [sA, sB]
 refine lv 8 (.pointer (some ⟨w.heap.size + 2, 0, none⟩)) rfl rfl (by intro x hx; go_simp; all_goals exact rfl) ?_
 simp only [sA, sB]
 refine ls 9 2 0 [.int .u64 (tn (x0.lo + x1.lo))] rfl rfl rfl (by intro x hx; obtain ⟨_, z0, q0⟩ := hx.at1 2 0 rfl; go_simp; all_goals rfl) ?_
 simp only [Blk.putC, setM, sA, sB]
 refine la 10 14 rfl rfl rfl rfl ?_
 simp only [sA, sB]
 clear HS
 refine ld fun W1 HS => ?_
 go_upto_region 2 with fail
 refine lnb HS.out rfl ?_
 refine lv 0 (.pointer (some ⟨w.heap.size, 1, none⟩)) rfl rfl (by intro x hx; go_simp; all_goals exact rfl) ?_
 simp only [sA, sB]
 refine lv 1 (.int .u64 (tn (x0.hi))) rfl rfl (by intro x hx; have f0 := hx.load 0 1 rfl rfl; go_simp; all_goals exact rfl) ?_
 simp only [sA, sB]
 refine lv 2 (.pointer (some ⟨w.heap.size + 1, 1, none⟩)) rfl rfl (by intro x hx; go_simp; all_goals exact rfl) ?_
 simp only [sA, sB]
 refine lv 3 (.int .u64 (tn (x1.hi))) rfl rfl (by intro x hx; have f0 := hx.load 1 1 rfl rfl; go_simp; all_goals exact rfl) ?_
 simp only [sA, sB]
 refine lc 4 128 #[.int .u64 (tn (x0.hi)), .int .u64 (tn (x1.hi))] (.tuple #[.int .u64 (tn (x0.hi + x1.hi)), .bool (((geU (x0.hi + x1.hi) x0.hi) == (geU x1.hi 0#64)))]) rfl rfl (by intro x hx; exact span_sum_uint64_any x0.hi x1.hi _) ?_
 simp only [sA, sB]
 refine lm 5 21 rfl rfl rfl rfl ?_
 simp only [sA, sB]
 refine lv 6 (.int .u64 (tn (x0.hi + x1.hi))) rfl rfl (by intro x hx; go_simp; all_goals exact rfl) ?_
 simp only [sA, sB]
 refine lv 7 (.bool (((geU (x0.hi + x1.hi) x0.hi) == (geU x1.hi 0#64)))) rfl rfl (by intro x hx; go_simp; all_goals exact rfl) ?_
 simp only [sA, sB]
 refine lv 8 (.pointer (some ⟨w.heap.size + 2, 1, none⟩)) rfl rfl (by intro x hx; go_simp; all_goals exact rfl) ?_
 simp only [sA, sB]
 refine ls 9 2 1 [.int .u64 (tn (x0.hi + x1.hi))] rfl rfl rfl (by intro x hx; obtain ⟨_, z0, q0⟩ := hx.at1 2 1 rfl; go_simp; all_goals rfl) ?_
 simp only [Blk.putC, setM, sA, sB]
 refine la 10 23 rfl rfl rfl rfl ?_
 simp only [sA, sB]
 clear HS
 refine ld fun W2 HS => ?_
 go_upto_region 3 with fail
 refine lnb HS.out rfl ?_
 refine lv 0 (vU (P.mk (x0.lo + x1.lo) (x0.hi + x1.hi))) rfl rfl (by intro x hx; obtain ⟨f0, f1⟩ := hx.two 2 0 rfl rfl; go_simp; all_goals exact rfl) ?_
 simp only [sA, sB, vU]
 refine lm 1 5 rfl rfl rfl rfl ?_
 simp only [sA, sB]
 refine lm 2 6 rfl rfl rfl rfl ?_
 simp only [sA, sB]
 refine ls 3 2 0 (cU (P.mk (x0.lo + x1.lo) (x0.hi + x1.hi))) rfl rfl rfl (by intro x hx; obtain ⟨⟨_, z0, q0⟩, ⟨_, z1, q1⟩⟩ := hx.at2 2 0 rfl; go_simp; all_goals rfl) ?_
 simp only [Blk.putC, setM, cU, sA, sB]
 refine la 4 26 rfl rfl rfl rfl ?_
 simp only [sA, sB]
 refine la 5 27 rfl rfl rfl rfl ?_
 simp only [sA, sB]
 clear HS
 refine ld fun W3 HS => ?_
 go_wp2
 obtain ⟨r0, r1⟩ := HS.out.two 2 0 rfl rfl
 have HF : span_add_uint64 x0 x1 = (P.mk (x0.lo + x1.lo) (x0.hi + x1.hi), ((geU (x0.lo + x1.lo) x0.lo) == (geU x1.lo 0#64)), ((geU (x0.hi + x1.hi) x0.hi) == (geU x1.hi 0#64))) := by
  unfold span_add_uint64
  rfl
 exact bodyPost_ret (v := .tuple #[vU (P.mk (x0.lo + x1.lo) (x0.hi + x1.hi)), .bool (((geU (x0.lo + x1.lo) x0.lo) == (geU x1.lo 0#64))), .bool (((geU (x0.hi + x1.hi) x0.hi) == (geU x1.hi 0#64)))]) (by simp [results, Tryz.results108, go_sem, r0, r1, vU]) rfl ⟨(by first | (rw [HF]; done) | (rw [HF]; rfl)), HS.out.below⟩
def span_alike (x0 : P) (x1 : Bool) (x2 : Bool)  : P :=
 bif (x1 != x2) then (P.mk 0#64 18446744073709551615#64) else (x0)
theorem span_alike_any (x0 : P) (x1 : Bool) (x2 : Bool)   (w : World) :
   Calls Tryz.prog 109 #[vU x0, .bool (x1), .bool (x2)] w fun e w' => e = .returned (vU (span_alike x0 x1 x2)) ∧ Below w.heap.size w w' := by
 simp only [vU]
 go_enter Tryz.func109, Tryz.ntmps109
 have HS : Hid (St w [⟨w.heap.size, [some (.int .u64 (tn (x0.lo))), some (.int .u64 (tn (x0.hi)))], 89⟩, ⟨w.heap.size + 1, [some (.int .u64 0), some (.int .u64 0)], 27⟩] _) := hid (((st_nil w).alloc (k := w.heap.size) rfl [.int .u64 (tn (x0.lo)), .int .u64 (tn (x0.hi))] 89).alloc (k := w.heap.size + 1) (by simp) [.int .u64 0, .int .u64 0] 27)
 go_upto_region 1 with fail
 refine lnb HS.out rfl ?_
 refine lm 0 1 rfl rfl rfl rfl ?_
 simp only [sA, sB]
 refine lm 1 2 rfl rfl rfl rfl ?_
 simp only [sA, sB]
 refine lv 2 (.bool ((x1 != x2))) rfl rfl (by intro x hx; go_simp; (first | done | exact neB x1 x2 | exact congrArg _ (neB x1 x2) | (rw [neB x1 x2]; done) | (rw [neB x1 x2]; rfl))) ?_
 simp only [sA, sB]
 clear HS
 refine ld fun W1 HS => ?_
 cases h1 : ((x1 != x2))
 ·replace h1 := hid h1
  go_upto_region 3 with fail
  refine lnb HS.out rfl ?_
  refine lv 0 (vU x0) rfl rfl (by intro x hx; obtain ⟨f0, f1⟩ := hx.two 0 0 rfl rfl; go_simp; all_goals exact rfl) ?_
  simp only [sA, sB, vU]
  refine lc 1 56 #[vU x0] (vU x0) rfl rfl (by intro x hx; exact span_toUnsigned_any x0 _) ?_
  simp only [sA, sB, vU]
  refine ls 2 1 0 (cU x0) rfl rfl rfl (by intro x hx; obtain ⟨⟨_, z0, q0⟩, ⟨_, z1, q1⟩⟩ := hx.at2 1 0 rfl; go_simp; all_goals rfl) ?_
  simp only [Blk.putC, setM, cU, sA, sB]
  clear HS
  refine ld fun W2 HS => ?_
  go_wp2
  obtain ⟨r0, r1⟩ := HS.out.two 1 0 rfl rfl
  have HF : span_alike x0 x1 x2 = x0 := by
    unfold span_alike
    rw [cond_f h1.out]
  exact bodyPost_ret (v := vU x0) (by simp [results, Tryz.results109, go_sem, r0, r1, vU]) rfl ⟨(by first | (rw [HF]; done) | (rw [HF]; rfl)), HS.out.below⟩
 ·replace h1 := hid h1
  go_upto_region 2 with fail
  refine lnb HS.out rfl ?_
  refine lc 0 28 #[] (vU (P.mk 0#64 18446744073709551615#64)) rfl rfl (by intro x hx; exact span_All_any _) ?_
  simp only [sA, sB, vU]
  refine ls 1 1 0 (cU (P.mk 0#64 18446744073709551615#64)) rfl rfl rfl (by intro x hx; obtain ⟨⟨_, z0, q0⟩, ⟨_, z1, q1⟩⟩ := hx.at2 1 0 rfl; go_simp; all_goals rfl) ?_
  simp only [Blk.putC, setM, cU, sA, sB]
  clear HS
  refine ld fun W2 HS => ?_
  go_wp2
  obtain ⟨r0, r1⟩ := HS.out.two 1 0 rfl rfl
  have HF : span_alike x0 x1 x2 = P.mk 0#64 18446744073709551615#64 := by
    unfold span_alike
    rw [cond_t h1.out]
  exact bodyPost_ret (v := vU (P.mk 0#64 18446744073709551615#64)) (by simp [results, Tryz.results109, go_sem, r0, r1, vU]) rfl ⟨(by first | (rw [HF]; done) | (rw [HF]; rfl)), HS.out.below⟩
def span_Add (x0 : P) (x1 : P)  : P :=
 span_alike ((span_add_uint64 x0 x1).1) ((span_add_uint64 x0 x1).2.1) ((span_add_uint64 x0 x1).2.2)
theorem span_Add_any (x0 : P) (x1 : P)   (w : World) :
  Calls Tryz.prog 61 #[vU x0, vU x1] w fun e w' => e = .returned (vU (span_Add x0 x1)) ∧ Below w.heap.size w w' := by
 simp only [vU]
 go_enter Tryz.func61, Tryz.ntmps61
 have HS : Hid (St w [⟨w.heap.size, [some (.int .u64 (tn (x0.lo))), some (.int .u64 (tn (x0.hi)))], 27⟩, ⟨w.heap.size + 1, [some (.int .u64 (tn (x1.lo))), some (.int .u64 (tn (x1.hi)))], 27⟩, ⟨w.heap.size + 2, [some (.int .u64 0), some (.int .u64 0)], 27⟩] _) := hid ((((st_nil w).alloc (k := w.heap.size) rfl [.int .u64 (tn (x0.lo)), .int .u64 (tn (x0.hi))] 27).alloc (k := w.heap.size + 1) (by simp) [.int .u64 (tn (x1.lo)), .int .u64 (tn (x1.hi))] 27).alloc (k := w.heap.size + 2) (by simp) [.int .u64 0, .int .u64 0] 27)
 go_upto_region 1 with fail
 refine upb 13 (HS.out.drew) rfl ?_
 refine tv 0 (vU x0) rfl rfl (by intro x hx; obtain ⟨f0, f1⟩ := hx.two 0 0 rfl rfl; go_simp; all_goals exact rfl) ?_
 simp only [sA, sB, vU]
 refine tc 1 86 #[vU x0] (vU x0) rfl rfl (by intro x hx; exact span_unsigned_any x0 _) ?_
 simp only [sA, sB, vU]
 refine tv 2 (vU x1) rfl rfl (by intro x hx; obtain ⟨f0, f1⟩ := hx.two 1 0 rfl rfl; go_simp; all_goals exact rfl) ?_
 simp only [sA, sB, vU]
 refine tc 3 86 #[vU x1] (vU x1) rfl rfl (by intro x hx; exact span_unsigned_any x1 _) ?_
 simp only [sA, sB, vU]
 refine tc 4 108 #[vU x0, vU x1] (.tuple #[vU ((span_add_uint64 x0 x1).1), .bool ((span_add_uint64 x0 x1).2.1), .bool ((span_add_uint64 x0 x1).2.2)]) rfl rfl (by intro x hx; exact span_add_uint64_any x0 x1 _) ?_
 simp only [sA, sB, vU]
 refine tm 5 13 rfl rfl rfl rfl ?_
 simp only [sA, sB]
 refine tv 6 (vU ((span_add_uint64 x0 x1).1)) rfl rfl (by intro x hx; go_simp; all_goals exact rfl) ?_
 simp only [sA, sB, vU]
 refine tv 7 (.bool ((span_add_uint64 x0 x1).2.1)) rfl rfl (by intro x hx; go_simp; all_goals exact rfl) ?_
 simp only [sA, sB]
 refine tv 8 (.bool ((span_add_uint64 x0 x1).2.2)) rfl rfl (by intro x hx; go_simp; all_goals exact rfl) ?_
 simp only [sA, sB]
 refine take_one (i := 9) (by kernel_rfl) (step_new rfl rfl (by rfl) [.int .u64 0, .int .u64 0] 89 (fun k => .pointer (some ⟨k, 0, none⟩)) [none, none] (lessC_no (lessC_no (trivial))) (by intro x hx; go_simp; all_goals exact rfl) (fun k1 => ?_))
 simp only [sA, sB, sC, sD]
 refine ts 10 3 0 (cU ((span_add_uint64 x0 x1).1)) rfl rfl rfl (by intro x hx; obtain ⟨⟨_, z0, q0⟩, ⟨_, z1, q1⟩⟩ := hx.at2 3 0 rfl; go_simp; all_goals rfl) ?_
 simp only [Blk.putC, setM, cU, sA, sB]
 refine ta 11 15 rfl rfl rfl rfl ?_
 simp only [sA, sB]
 refine ta 12 16 rfl rfl rfl rfl ?_
 simp only [sA, sB]
 clear HS
 refine td fun W1 HS => ?_
 go_upto_region 2 with fail
 refine lnb HS.out rfl ?_
 refine lv 0 (vU ((span_add_uint64 x0 x1).1)) rfl rfl (by intro x hx; obtain ⟨f0, f1⟩ := hx.two 3 0 rfl rfl; go_simp; all_goals exact rfl) ?_
 simp only [sA, sB, vU]
 refine lm 1 6 rfl rfl rfl rfl ?_
 simp only [sA, sB]
 refine lm 2 7 rfl rfl rfl rfl ?_
 simp only [sA, sB]
 refine lc 3 109 #[vU ((span_add_uint64 x0 x1).1), .bool ((span_add_uint64 x0 x1).2.1), .bool ((span_add_uint64 x0 x1).2.2)] (vU (span_alike ((span_add_uint64 x0 x1).1) ((span_add_uint64 x0 x1).2.1) ((span_add_uint64 x0 x1).2.2))) rfl rfl (by intro x hx; exact span_alike_any ((span_add_uint64 x0 x1).1) ((span_add_uint64 x0 x1).2.1) ((span_add_uint64 x0 x1).2.2) _) ?_
 simp only [sA, sB, vU]
 refine ls 4 2 0 (cU (span_alike ((span_add_uint64 x0 x1).1) ((span_add_uint64 x0 x1).2.1) ((span_add_uint64 x0 x1).2.2))) rfl rfl rfl (by intro x hx; obtain ⟨⟨_, z0, q0⟩, ⟨_, z1, q1⟩⟩ := hx.at2 2 0 rfl; go_simp; all_goals rfl) ?_
 simp only [Blk.putC, setM, cU, sA, sB]
 clear HS
 refine ld fun W2 HS => ?_
 go_wp2
 obtain ⟨r0, r1⟩ := HS.out.two 2 0 rfl rfl
 have HF : span_Add x0 x1 = span_alike ((span_add_uint64 x0 x1).1) ((span_add_uint64 x0 x1).2.1) ((span_add_uint64 x0 x1).2.2) := by
  unfold span_Add
  rfl
 exact bodyPost_ret (v := vU (span_alike ((span_add_uint64 x0 x1).1) ((span_add_uint64 x0 x1).2.1) ((span_add_uint64 x0 x1).2.2))) (by simp [results, Tryz.results61, go_sem, r0, r1, vU]) rfl ⟨(by first | (rw [HF]; done) | (rw [HF]; rfl)), HS.out.below⟩
theorem span_difference_uint64_any (x0 : BitVec 64) (x1 : BitVec 64)   (w : World) :
  Calls Tryz.prog 137 #[.int .u64 (tn (x0)), .int .u64 (tn (x1))] w fun e w' => e = .returned (.tuple #[.int .u64 (tn (x0 - x1)), .bool (((leU (x0 - x1) x0) == (geU x1 0#64)))]) ∧ Below w.heap.size w w' := by
 go_enter Tryz.func137, Tryz.ntmps137
 have HS : Hid (St w [] _) := hid (st_nil w)
 go_upto_region 1 with fail
 refine lnb HS.out rfl ?_
 refine lm 0 0 rfl rfl rfl rfl ?_
 simp only [sA, sB]
 refine lm 1 1 rfl rfl rfl rfl ?_
 simp only [sA, sB]
 refine lv 2 (.int .u64 (tn (x0 - x1))) rfl rfl (by intro x hx; go_simp; (first | done | exact subUT x0 x1 | exact congrArg _ (subUT x0 x1) | (rw [subUT x0 x1]; done) | (rw [subUT x0 x1]; rfl))) ?_
 simp only [sA, sB]
 refine la 3 9 rfl rfl rfl rfl ?_
 simp only [sA, sB]
 clear HS
 refine ld fun W1 HS => ?_
 go_upto_region 2 with fail
 refine lnb HS.out rfl ?_
 refine lm 0 6 rfl rfl rfl rfl ?_
 simp only [sA, sB]
 refine lm 1 6 rfl rfl rfl rfl ?_
 simp only [sA, sB]
 refine lm 2 0 rfl rfl rfl rfl ?_
 simp only [sA, sB]
 refine lv 3 (.bool (leU (x0 - x1) x0)) rfl rfl (by intro x hx; go_simp; (first | done | exact leUT (x0 - x1) x0 | exact congrArg _ (leUT (x0 - x1) x0) | (rw [leUT (x0 - x1) x0]; done) | (rw [leUT (x0 - x1) x0]; rfl))) ?_
 simp only [sA, sB]
 refine lm 4 1 rfl rfl rfl rfl ?_
 simp only [sA, sB]
 refine lv 5 (.bool (geU x1 0#64)) rfl rfl (by intro x hx; go_simp; (first | done | exact geUT x1 0#64 | exact congrArg _ (geUT x1 0#64) | (rw [geUT x1 0#64]; done) | (rw [geUT x1 0#64]; rfl))) ?_
 simp only [sA, sB]
 refine lv 6 (.bool (((leU (x0 - x1) x0) == (geU x1 0#64)))) rfl rfl (by intro x hx; go_simp; all_goals exact rfl) ?_
 simp only [sA, sB]
 refine la 7 10 rfl rfl rfl rfl ?_
 simp only [sA, sB]
 refine la 8 16 rfl rfl rfl rfl ?_
 simp only [sA, sB]
 clear HS
 refine ld fun W2 HS => ?_
 go_wp2
 exact bodyPost_ret (v := .tuple #[.int .u64 (tn (x0 - x1)), .bool (((leU (x0 - x1) x0) == (geU x1 0#64)))]) (by simp [results, Tryz.results137, go_sem]) rfl ⟨rfl, HS.out.below⟩
def span_sub_uint64 (x0 : P) (x1 : P)  : P × Bool × Bool :=
 (P.mk (x0.lo - x1.hi) (x0.hi - x1.lo), ((leU (x0.lo - x1.hi) x0.lo) == (geU x1.hi 0#64)), ((leU (x0.hi - x1.lo) x0.hi) == (geU x1.lo 0#64)))
theorem span_sub_uint64_any (x0 : P) (x1 : P)   (w : World) :
  Calls Tryz.prog 130 #[vU x0, vU x1] w fun e w' => e = .returned (.tuple #[vU ((span_sub_uint64 x0 x1).1), .bool ((span_sub_uint64 x0 x1).2.1), .bool ((span_sub_uint64 x0 x1).2.2)]) ∧ Below w.heap.size w w' := by
 simp only [vU]
 go_enter Tryz.func130, Tryz.ntmps130
 have HS : Hid (St w [⟨w.heap.size, [some (.int .u64 (tn (x0.lo))), some (.int .u64 (tn (x0.hi)))], 89⟩, ⟨w.heap.size + 1, [some (.int .u64 (tn (x1.lo))), some (.int .u64 (tn (x1.hi)))], 89⟩, ⟨w.heap.size + 2, [some (.int .u64 0), some (.int .u64 0)], 89⟩] _) := hid ((((st_nil w).alloc (k := w.heap.size) rfl [.int .u64 (tn (x0.lo)), .int .u64 (tn (x0.hi))] 89).alloc (k := w.heap.size + 1) (by simp) [.int .u64 (tn (x1.lo)), .int .u64 (tn (x1.hi))] 89).alloc (k := w.heap.size + 2) (by simp) [.int .u64 0, .int .u64 0] 89)
 go_upto_region 1 with fail
 refine lnb HS.out rfl ?_
 refine lv 0 (.pointer (some ⟨w.heap.size, 0, none⟩)) rfl rfl (by intro x hx; go_simp; all_goals exact rfl) ?_
 simp only [sA, sB]
 refine lv 1 (.int .u64 (tn (x0.lo))) rfl rfl (by intro x hx; have f0 := hx.load 0 0 rfl rfl; go_simp; all_goals exact rfl) ?_
 simp only [sA, sB]
 refine lv 2 (.pointer (some ⟨w.heap.size + 1, 1, none⟩)) rfl rfl (by intro x hx; go_simp; all_goals exact rfl) ?_
 simp only [sA, sB]
 refine lv 3 (.int .u64 (tn (x1.hi))) rfl rfl (by intro x hx; have f0 := hx.load 1 1 rfl rfl; go_simp; all_goals exact rfl) ?_
 simp only [sA, sB]
 refine lc 4 137 #[.int .u64 (tn (x0.lo)), .int .u64 (tn (x1.hi))] (.tuple #[.int .u64 (tn (x0.lo - x1.hi)), .bool (((leU (x0.lo - x1.hi) x0.lo) == (geU x1.hi 0#64)))]) rfl rfl (by intro x hx; exact span_difference_uint64_any x0.lo x1.hi _) ?_
 simp only [sA, sB]
 refine lm 5 12 rfl rfl rfl rfl ?_
 simp only [sA, sB]
 refine lv 6 (.int .u64 (tn (x0.lo - x1.hi))) rfl rfl (by intro x hx; go_simp; all_goals exact rfl) ?_
 simp only [sA, sB]
 refine lv 7 (.bool (((leU (x0.lo - x1.hi) x0.lo) == (geU x1.hi 0#64)))) rfl rfl (by intro x hx; go_simp; all_goals exact rfl) ?_
 simp only [sA, sB]
 refine lv 8 (.pointer (some ⟨w.heap.size + 2, 0, none⟩)) rfl rfl (by intro x hx; go_simp; all_goals exact rfl) ?_
 simp only [sA, sB]
 refine ls 9 2 0 [.int .u64 (tn (x0.lo - x1.hi))] rfl rfl rfl (by intro x hx; obtain ⟨_, z0, q0⟩ := hx.at1 2 0 rfl; go_simp; all_goals rfl) ?_
 simp only [Blk.putC, setM, sA, sB]
 refine la 10 14 rfl rfl rfl rfl ?_
 simp only [sA, sB]
 clear HS
 refine ld fun W1 HS => ?_
 go_upto_region 2 with fail
 refine lnb HS.out rfl ?_
 refine lv 0 (.pointer (some ⟨w.heap.size, 1, none⟩)) rfl rfl (by intro x hx; go_simp; all_goals exact rfl) ?_
 simp only [sA, sB]
 refine lv 1 (.int .u64 (tn (x0.hi))) rfl rfl (by intro x hx; have f0 := hx.load 0 1 rfl rfl; go_simp; all_goals exact rfl) ?_
 simp only [sA, sB]
 refine lv 2 (.pointer (some ⟨w.heap.size + 1, 0, none⟩)) rfl rfl (by intro x hx; go_simp; all_goals exact rfl) ?_
 simp only [sA, sB]
 refine lv 3 (.int .u64 (tn (x1.lo))) rfl rfl (by intro x hx; have f0 := hx.load 1 0 rfl rfl; go_simp; all_goals exact rfl) ?_
 simp only [sA, sB]
 refine lc 4 137 #[.int .u64 (tn (x0.hi)), .int .u64 (tn (x1.lo))] (.tuple #[.int .u64 (tn (x0.hi - x1.lo)), .bool (((leU (x0.hi - x1.lo) x0.hi) == (geU x1.lo 0#64)))]) rfl rfl (by intro x hx; exact span_difference_uint64_any x0.hi x1.lo _) ?_
 simp only [sA, sB]
 refine lm 5 21 rfl rfl rfl rfl ?_
 simp only [sA, sB]
 refine lv 6 (.int .u64 (tn (x0.hi - x1.lo))) rfl rfl (by intro x hx; go_simp; all_goals exact rfl) ?_
 simp only [sA, sB]
 refine lv 7 (.bool (((leU (x0.hi - x1.lo) x0.hi) == (geU x1.lo 0#64)))) rfl rfl (by intro x hx; go_simp; all_goals exact rfl) ?_
 simp only [sA, sB]
 refine lv 8 (.pointer (some ⟨w.heap.size + 2, 1, none⟩)) rfl rfl (by intro x hx; go_simp; all_goals exact rfl) ?_
 simp only [sA, sB]
 refine ls 9 2 1 [.int .u64 (tn (x0.hi - x1.lo))] rfl rfl rfl (by intro x hx; obtain ⟨_, z0, q0⟩ := hx.at1 2 1 rfl; go_simp; all_goals rfl) ?_
 simp only [Blk.putC, setM, sA, sB]
 refine la 10 23 rfl rfl rfl rfl ?_
 simp only [sA, sB]
 clear HS
 refine ld fun W2 HS => ?_
 go_upto_region 3 with fail
 refine lnb HS.out rfl ?_
 refine lv 0 (vU (P.mk (x0.lo - x1.hi) (x0.hi - x1.lo))) rfl rfl (by intro x hx; obtain ⟨f0, f1⟩ := hx.two 2 0 rfl rfl; go_simp; all_goals exact rfl) ?_
 simp only [sA, sB, vU]
 refine lm 1 5 rfl rfl rfl rfl ?_
 simp only [sA, sB]
 refine lm 2 6 rfl rfl rfl rfl ?_
 simp only [sA, sB]
 refine ls 3 2 0 (cU (P.mk (x0.lo - x1.hi) (x0.hi - x1.lo))) rfl rfl rfl (by intro x hx; obtain ⟨⟨_, z0, q0⟩, ⟨_, z1, q1⟩⟩ := hx.at2 2 0 rfl; go_simp; all_goals rfl) ?_
 simp only [Blk.putC, setM, cU, sA, sB]
 refine la 4 26 rfl rfl rfl rfl ?_
 simp only [sA, sB]
 refine la 5 27 rfl rfl rfl rfl ?_
 simp only [sA, sB]
 clear HS
 refine ld fun W3 HS => ?_
 go_wp2
 obtain ⟨r0, r1⟩ := HS.out.two 2 0 rfl rfl
 have HF : span_sub_uint64 x0 x1 = (P.mk (x0.lo - x1.hi) (x0.hi - x1.lo), ((leU (x0.lo - x1.hi) x0.lo) == (geU x1.hi 0#64)), ((leU (x0.hi - x1.lo) x0.hi) == (geU x1.lo 0#64))) := by
  unfold span_sub_uint64
  rfl
 exact bodyPost_ret (v := .tuple #[vU (P.mk (x0.lo - x1.hi) (x0.hi - x1.lo)), .bool (((leU (x0.lo - x1.hi) x0.lo) == (geU x1.hi 0#64))), .bool (((leU (x0.hi - x1.lo) x0.hi) == (geU x1.lo 0#64)))]) (by simp [results, Tryz.results130, go_sem, r0, r1, vU]) rfl ⟨(by first | (rw [HF]; done) | (rw [HF]; rfl)), HS.out.below⟩
def span_Sub (x0 : P) (x1 : P)  : P :=
 span_alike ((span_sub_uint64 x0 x1).1) ((span_sub_uint64 x0 x1).2.1) ((span_sub_uint64 x0 x1).2.2)
theorem span_Sub_any (x0 : P) (x1 : P)   (w : World) :
  Calls Tryz.prog 113 #[vU x0, vU x1] w fun e w' => e = .returned (vU (span_Sub x0 x1)) ∧ Below w.heap.size w w' := by
 simp only [vU]
 go_enter Tryz.func113, Tryz.ntmps113
 have HS : Hid (St w [⟨w.heap.size, [some (.int .u64 (tn (x0.lo))), some (.int .u64 (tn (x0.hi)))], 27⟩, ⟨w.heap.size + 1, [some (.int .u64 (tn (x1.lo))), some (.int .u64 (tn (x1.hi)))], 27⟩, ⟨w.heap.size + 2, [some (.int .u64 0), some (.int .u64 0)], 27⟩] _) := hid ((((st_nil w).alloc (k := w.heap.size) rfl [.int .u64 (tn (x0.lo)), .int .u64 (tn (x0.hi))] 27).alloc (k := w.heap.size + 1) (by simp) [.int .u64 (tn (x1.lo)), .int .u64 (tn (x1.hi))] 27).alloc (k := w.heap.size + 2) (by simp) [.int .u64 0, .int .u64 0] 27)
 go_upto_region 1 with fail
 refine upb 13 (HS.out.drew) rfl ?_
 refine tv 0 (vU x0) rfl rfl (by intro x hx; obtain ⟨f0, f1⟩ := hx.two 0 0 rfl rfl; go_simp; all_goals exact rfl) ?_
 simp only [sA, sB, vU]
 refine tc 1 86 #[vU x0] (vU x0) rfl rfl (by intro x hx; exact span_unsigned_any x0 _) ?_
 simp only [sA, sB, vU]
 refine tv 2 (vU x1) rfl rfl (by intro x hx; obtain ⟨f0, f1⟩ := hx.two 1 0 rfl rfl; go_simp; all_goals exact rfl) ?_
 simp only [sA, sB, vU]
 refine tc 3 86 #[vU x1] (vU x1) rfl rfl (by intro x hx; exact span_unsigned_any x1 _) ?_
 simp only [sA, sB, vU]
 refine tc 4 130 #[vU x0, vU x1] (.tuple #[vU ((span_sub_uint64 x0 x1).1), .bool ((span_sub_uint64 x0 x1).2.1), .bool ((span_sub_uint64 x0 x1).2.2)]) rfl rfl (by intro x hx; exact span_sub_uint64_any x0 x1 _) ?_
 simp only [sA, sB, vU]
 refine tm 5 13 rfl rfl rfl rfl ?_
 simp only [sA, sB]
 refine tv 6 (vU ((span_sub_uint64 x0 x1).1)) rfl rfl (by intro x hx; go_simp; all_goals exact rfl) ?_
 simp only [sA, sB, vU]
 refine tv 7 (.bool ((span_sub_uint64 x0 x1).2.1)) rfl rfl (by intro x hx; go_simp; all_goals exact rfl) ?_
 simp only [sA, sB]
 refine tv 8 (.bool ((span_sub_uint64 x0 x1).2.2)) rfl rfl (by intro x hx; go_simp; all_goals exact rfl) ?_
 simp only [sA, sB]
 refine take_one (i := 9) (by kernel_rfl) (step_new rfl rfl (by rfl) [.int .u64 0, .int .u64 0] 89 (fun k => .pointer (some ⟨k, 0, none⟩)) [none, none] (lessC_no (lessC_no (trivial))) (by intro x hx; go_simp; all_goals exact rfl) (fun k1 => ?_))
 simp only [sA, sB, sC, sD]
 refine ts 10 3 0 (cU ((span_sub_uint64 x0 x1).1)) rfl rfl rfl (by intro x hx; obtain ⟨⟨_, z0, q0⟩, ⟨_, z1, q1⟩⟩ := hx.at2 3 0 rfl; go_simp; all_goals rfl) ?_
 simp only [Blk.putC, setM, cU, sA, sB]
 refine ta 11 15 rfl rfl rfl rfl ?_
 simp only [sA, sB]
 refine ta 12 16 rfl rfl rfl rfl ?_
 simp only [sA, sB]
 clear HS
 refine td fun W1 HS => ?_
 go_upto_region 2 with fail
 refine lnb HS.out rfl ?_
 refine lv 0 (vU ((span_sub_uint64 x0 x1).1)) rfl rfl (by intro x hx; obtain ⟨f0, f1⟩ := hx.two 3 0 rfl rfl; go_simp; all_goals exact rfl) ?_
 simp only [sA, sB, vU]
 refine lm 1 6 rfl rfl rfl rfl ?_
 simp only [sA, sB]
 refine lm 2 7 rfl rfl rfl rfl ?_
 simp only [sA, sB]
 refine lc 3 109 #[vU ((span_sub_uint64 x0 x1).1), .bool ((span_sub_uint64 x0 x1).2.1), .bool ((span_sub_uint64 x0 x1).2.2)] (vU (span_alike ((span_sub_uint64 x0 x1).1) ((span_sub_uint64 x0 x1).2.1) ((span_sub_uint64 x0 x1).2.2))) rfl rfl (by intro x hx; exact span_alike_any ((span_sub_uint64 x0 x1).1) ((span_sub_uint64 x0 x1).2.1) ((span_sub_uint64 x0 x1).2.2) _) ?_
 simp only [sA, sB, vU]
 refine ls 4 2 0 (cU (span_alike ((span_sub_uint64 x0 x1).1) ((span_sub_uint64 x0 x1).2.1) ((span_sub_uint64 x0 x1).2.2))) rfl rfl rfl (by intro x hx; obtain ⟨⟨_, z0, q0⟩, ⟨_, z1, q1⟩⟩ := hx.at2 2 0 rfl; go_simp; all_goals rfl) ?_
 simp only [Blk.putC, setM, cU, sA, sB]
 clear HS
 refine ld fun W2 HS => ?_
 go_wp2
 obtain ⟨r0, r1⟩ := HS.out.two 2 0 rfl rfl
 have HF : span_Sub x0 x1 = span_alike ((span_sub_uint64 x0 x1).1) ((span_sub_uint64 x0 x1).2.1) ((span_sub_uint64 x0 x1).2.2) := by
  unfold span_Sub
  rfl
 exact bodyPost_ret (v := vU (span_alike ((span_sub_uint64 x0 x1).1) ((span_sub_uint64 x0 x1).2.1) ((span_sub_uint64 x0 x1).2.2))) (by simp [results, Tryz.results113, go_sem, r0, r1, vU]) rfl ⟨(by first | (rw [HF]; done) | (rw [HF]; rfl)), HS.out.below⟩
end Go.Proofs.YtmcapfbkedfdkaaGreatDoor.Sp
