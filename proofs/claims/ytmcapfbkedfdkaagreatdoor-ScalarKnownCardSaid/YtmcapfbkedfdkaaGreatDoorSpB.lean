/-
  The contracts of span's calls: signed ones.
-/
import Derived.Deep.DeepCutAuto
import Derived.Test.YtmcapfbkedfdkaaGreatDoorSpA
namespace Go.Proofs.YtmcapfbkedfdkaaGreatDoor.Sp
set_option maxRecDepth 100000
set_option maxHeartbeats 1000000
open Go.RowKit Go.Proofs.YtmcapfbkedfdkaaGreatDoor.Num Go.Proofs.YtmcapfbkedfdkaaGreatDoor.Up
theorem span_only_int64_any (x0 : BitVec 64)   (w : World) :
  Calls Tryz.prog 59 #[.int .i64 (ti (x0))] w fun e w' => e = .returned (vI (P.mk x0 x0)) ∧ Below w.heap.size w w' := by
 simp only [vI]
 go_enter Tryz.func59, Tryz.ntmps59
 have HS : Hid (St w [⟨w.heap.size, [some (.int .i64 0), some (.int .i64 0)], 93⟩] _) := hid ((st_nil w).alloc (k := w.heap.size) rfl [.int .i64 0, .int .i64 0] 93)
 go_upto_region 1 with fail
 refine lnb HS.out rfl ?_
 refine lm 0 0 rfl rfl rfl rfl ?_
 simp only [sA, sB]
 refine lm 1 0 rfl rfl rfl rfl ?_
 simp only [sA, sB]
 refine lv 2 (vI (P.mk x0 x0)) rfl rfl (by intro x hx; go_simp; all_goals exact rfl) ?_
 simp only [sA, sB, vI]
 refine ls 3 0 0 (cI (P.mk x0 x0)) rfl rfl rfl (by intro x hx; obtain ⟨⟨_, z0, q0⟩, ⟨_, z1, q1⟩⟩ := hx.at2 0 0 rfl; go_simp; all_goals rfl) ?_
 simp only [Blk.putC, setM, cI, sA, sB]
 clear HS
 refine ld fun W1 HS => ?_
 go_wp2
 obtain ⟨r0, r1⟩ := HS.out.two 0 0 rfl rfl
 exact bodyPost_ret (v := vI (P.mk x0 x0)) (by simp [results, Tryz.results59, go_sem, r0, r1, vI]) rfl ⟨rfl, HS.out.below⟩
theorem span_toSigned_any (x0 : P)   (w : World) :
  Calls Tryz.prog 58 #[vI x0] w fun e w' => e = .returned (vI x0) ∧ Below w.heap.size w w' := by
 simp only [vI]
 go_enter Tryz.func58, Tryz.ntmps58
 have HS : Hid (St w [⟨w.heap.size, [some (.int .i64 (ti (x0.lo))), some (.int .i64 (ti (x0.hi)))], 93⟩, ⟨w.heap.size + 1, [some (.int .i64 0), some (.int .i64 0)], 29⟩] _) := hid (((st_nil w).alloc (k := w.heap.size) rfl [.int .i64 (ti (x0.lo)), .int .i64 (ti (x0.hi))] 93).alloc (k := w.heap.size + 1) (by simp) [.int .i64 0, .int .i64 0] 29)
 go_upto_region 1 with fail
 refine lnb HS.out rfl ?_
 refine lv 0 (.pointer (some ⟨w.heap.size, 0, none⟩)) rfl rfl (by intro x hx; go_simp; all_goals exact rfl) ?_
 simp only [sA, sB]
 refine lv 1 (.int .i64 (ti (x0.lo))) rfl rfl (by intro x hx; have f0 := hx.load 0 0 rfl rfl; go_simp; all_goals exact rfl) ?_
 simp only [sA, sB]
 refine lv 2 (.pointer (some ⟨w.heap.size, 1, none⟩)) rfl rfl (by intro x hx; go_simp; all_goals exact rfl) ?_
 simp only [sA, sB]
 refine lv 3 (.int .i64 (ti (x0.hi))) rfl rfl (by intro x hx; have f0 := hx.load 0 1 rfl rfl; go_simp; all_goals exact rfl) ?_
 simp only [sA, sB]
 refine lv 4 (vI x0) rfl rfl (by intro x hx; go_simp; all_goals exact rfl) ?_
 simp only [sA, sB, vI]
 refine ls 5 1 0 (cI x0) rfl rfl rfl (by intro x hx; obtain ⟨⟨_, z0, q0⟩, ⟨_, z1, q1⟩⟩ := hx.at2 1 0 rfl; go_simp; all_goals rfl) ?_
 simp only [Blk.putC, setM, cI, sA, sB]
 clear HS
 refine ld fun W1 HS => ?_
 go_wp2
 obtain ⟨r0, r1⟩ := HS.out.two 1 0 rfl rfl
 exact bodyPost_ret (v := vI x0) (by simp [results, Tryz.results58, go_sem, r0, r1, vI]) rfl ⟨rfl, HS.out.below⟩
theorem span_Sof_any (x0 : BitVec 64)   (w : World) :
  Calls Tryz.prog 21 #[.int .i64 (ti (x0))] w fun e w' => e = .returned (vI (P.mk x0 x0)) ∧ Below w.heap.size w w' := by
 simp only [vI]
 go_enter Tryz.func21, Tryz.ntmps21
 have HS : Hid (St w [⟨w.heap.size, [some (.int .i64 0), some (.int .i64 0)], 29⟩] _) := hid ((st_nil w).alloc (k := w.heap.size) rfl [.int .i64 0, .int .i64 0] 29)
 go_upto_region 1 with fail
 refine lnb HS.out rfl ?_
 refine lm 0 0 rfl rfl rfl rfl ?_
 simp only [sA, sB]
 refine lc 1 59 #[.int .i64 (ti (x0))] (vI (P.mk x0 x0)) rfl rfl (by intro x hx; exact span_only_int64_any x0 _) ?_
 simp only [sA, sB, vI]
 refine lc 2 58 #[vI (P.mk x0 x0)] (vI (P.mk x0 x0)) rfl rfl (by intro x hx; exact span_toSigned_any (P.mk x0 x0) _) ?_
 simp only [sA, sB, vI]
 refine ls 3 0 0 (cI (P.mk x0 x0)) rfl rfl rfl (by intro x hx; obtain ⟨⟨_, z0, q0⟩, ⟨_, z1, q1⟩⟩ := hx.at2 0 0 rfl; go_simp; all_goals rfl) ?_
 simp only [Blk.putC, setM, cI, sA, sB]
 clear HS
 refine ld fun W1 HS => ?_
 go_wp2
 obtain ⟨r0, r1⟩ := HS.out.two 0 0 rfl rfl
 exact bodyPost_ret (v := vI (P.mk x0 x0)) (by simp [results, Tryz.results21, go_sem, r0, r1, vI]) rfl ⟨rfl, HS.out.below⟩
theorem span_Sall_any    (w : World) :
  Calls Tryz.prog 29 #[] w fun e w' => e = .returned (vI (P.mk 9223372036854775808#64 9223372036854775807#64)) ∧ Below w.heap.size w w' := by
 simp only [vI]
 go_enter Tryz.func29, Tryz.ntmps29
 have HS : Hid (St w [⟨w.heap.size, [some (.int .i64 0), some (.int .i64 0)], 29⟩] _) := hid ((st_nil w).alloc (k := w.heap.size) rfl [.int .i64 0, .int .i64 0] 29)
 go_upto_region 1 with fail
 refine lnb HS.out rfl ?_
 refine lv 0 (.agg #[.int .i64 (-9223372036854775808), .int .i64 9223372036854775807]) rfl rfl (by intro x hx; go_simp; all_goals exact rfl) ?_
 simp only [sA, sB]
 refine ls 1 0 0 [.int .i64 (-9223372036854775808), .int .i64 9223372036854775807] rfl rfl rfl (by intro x hx; obtain ⟨⟨_, z0, q0⟩, ⟨_, z1, q1⟩⟩ := hx.at2 0 0 rfl; go_simp; all_goals rfl) ?_
 simp only [Blk.putC, setM, sA, sB]
 clear HS
 refine ld fun W1 HS => ?_
 go_wp2
 obtain ⟨r0, r1⟩ := HS.out.two 0 0 rfl rfl
 exact bodyPost_ret (v := .agg #[.int .i64 (-9223372036854775808), .int .i64 9223372036854775807]) (by simp [results, Tryz.results29, go_sem, r0, r1]) rfl ⟨rfl, HS.out.below⟩
theorem span_signed_any (x0 : P)   (w : World) :
  Calls Tryz.prog 88 #[vI x0] w fun e w' => e = .returned (vI x0) ∧ Below w.heap.size w w' := by
 simp only [vI]
 go_enter Tryz.func88, Tryz.ntmps88
 have HS : Hid (St w [⟨w.heap.size, [some (.int .i64 (ti (x0.lo))), some (.int .i64 (ti (x0.hi)))], 29⟩, ⟨w.heap.size + 1, [some (.int .i64 0), some (.int .i64 0)], 93⟩] _) := hid (((st_nil w).alloc (k := w.heap.size) rfl [.int .i64 (ti (x0.lo)), .int .i64 (ti (x0.hi))] 29).alloc (k := w.heap.size + 1) (by simp) [.int .i64 0, .int .i64 0] 93)
 go_upto_region 1 with fail
 refine lnb HS.out rfl ?_
 refine lv 0 (.pointer (some ⟨w.heap.size, 0, none⟩)) rfl rfl (by intro x hx; go_simp; all_goals exact rfl) ?_
 simp only [sA, sB]
 refine lv 1 (.int .i64 (ti (x0.lo))) rfl rfl (by intro x hx; have f0 := hx.load 0 0 rfl rfl; go_simp; all_goals exact rfl) ?_
 simp only [sA, sB]
 refine lv 2 (.pointer (some ⟨w.heap.size, 1, none⟩)) rfl rfl (by intro x hx; go_simp; all_goals exact rfl) ?_
 simp only [sA, sB]
 refine lv 3 (.int .i64 (ti (x0.hi))) rfl rfl (by intro x hx; have f0 := hx.load 0 1 rfl rfl; go_simp; all_goals exact rfl) ?_
 simp only [sA, sB]
 refine lv 4 (vI x0) rfl rfl (by intro x hx; go_simp; all_goals exact rfl) ?_
 simp only [sA, sB, vI]
 refine ls 5 1 0 (cI x0) rfl rfl rfl (by intro x hx; obtain ⟨⟨_, z0, q0⟩, ⟨_, z1, q1⟩⟩ := hx.at2 1 0 rfl; go_simp; all_goals rfl) ?_
 simp only [Blk.putC, setM, cI, sA, sB]
 clear HS
 refine ld fun W1 HS => ?_
 go_wp2
 obtain ⟨r0, r1⟩ := HS.out.two 1 0 rfl rfl
 exact bodyPost_ret (v := vI x0) (by simp [results, Tryz.results88, go_sem, r0, r1, vI]) rfl ⟨rfl, HS.out.below⟩
def span_within_int64 (x0 : P) (x1 : P)  : Bool :=
 bif leI x1.lo x0.lo then (leI x0.hi x1.hi) else (false)
theorem span_within_int64_any (x0 : P) (x1 : P)   (w : World) :
   Calls Tryz.prog 87 #[vI x0, vI x1] w fun e w' => e = .returned (.bool (span_within_int64 x0 x1)) ∧ Below w.heap.size w w' := by
 simp only [vI]
 go_enter Tryz.func87, Tryz.ntmps87
 have HS : Hid (St w [⟨w.heap.size, [some (.int .i64 (ti (x0.lo))), some (.int .i64 (ti (x0.hi)))], 93⟩, ⟨w.heap.size + 1, [some (.int .i64 (ti (x1.lo))), some (.int .i64 (ti (x1.hi)))], 93⟩] _) := hid (((st_nil w).alloc (k := w.heap.size) rfl [.int .i64 (ti (x0.lo)), .int .i64 (ti (x0.hi))] 93).alloc (k := w.heap.size + 1) (by simp) [.int .i64 (ti (x1.lo)), .int .i64 (ti (x1.hi))] 93)
 go_upto_region 1 with fail
 refine lnb HS.out rfl ?_
 refine lv 0 (.pointer (some ⟨w.heap.size + 1, 0, none⟩)) rfl rfl (by intro x hx; go_simp; all_goals exact rfl) ?_
 simp only [sA, sB]
 refine lv 1 (.int .i64 (ti (x1.lo))) rfl rfl (by intro x hx; have f0 := hx.load 1 0 rfl rfl; go_simp; all_goals exact rfl) ?_
 simp only [sA, sB]
 refine lv 2 (.pointer (some ⟨w.heap.size, 0, none⟩)) rfl rfl (by intro x hx; go_simp; all_goals exact rfl) ?_
 simp only [sA, sB]
 refine lv 3 (.int .i64 (ti (x0.lo))) rfl rfl (by intro x hx; have f0 := hx.load 0 0 rfl rfl; go_simp; all_goals exact rfl) ?_
 simp only [sA, sB]
 refine lv 4 (.bool (leI x1.lo x0.lo)) rfl rfl (by intro x hx; go_simp; (first | done | exact leIT x1.lo x0.lo | exact congrArg _ (leIT x1.lo x0.lo) | (rw [leIT x1.lo x0.lo]; done) | (rw [leIT x1.lo x0.lo]; rfl))) ?_
 simp only [sA, sB]
 refine lm 5 9 rfl rfl rfl rfl ?_
 simp only [sA, sB]
 cases h1 : (leI x1.lo x0.lo)
 ·replace h1 := hid h1
  refine lin_no (i := 6) rfl rfl (by kernel_rfl) ?_
  simp only [sA, sB]
  refine lin_no (i := 7) rfl rfl (by kernel_rfl) ?_
  simp only [sA, sB]
  refine lin_no (i := 8) rfl rfl (by kernel_rfl) ?_
  simp only [sA, sB]
  refine lin_no (i := 9) rfl rfl (by kernel_rfl) ?_
  simp only [sA, sB]
  refine lin_no (i := 10) rfl rfl (by kernel_rfl) ?_
  simp only [sA, sB]
  refine lv 11 (.bool false) rfl rfl (by intro x hx; go_simp; all_goals exact rfl) ?_
  simp only [sA, sB]
  refine la 12 16 rfl rfl rfl rfl ?_
  simp only [sA, sB]
  clear HS
  refine ld fun W1 HS => ?_
  go_wp2
  have HF : span_within_int64 x0 x1 = false := by
    unfold span_within_int64
    rw [cond_f h1.out]
  exact bodyPost_ret (v := .bool false) (by simp [results, Tryz.results87, go_sem]) rfl ⟨(by first | (rw [HF]; done) | (rw [HF]; rfl)), HS.out.below⟩
 ·replace h1 := hid h1
  refine lv 6 (.pointer (some ⟨w.heap.size, 1, none⟩)) rfl rfl (by intro x hx; go_simp; all_goals exact rfl) ?_
  simp only [sA, sB]
  refine lv 7 (.int .i64 (ti (x0.hi))) rfl rfl (by intro x hx; have f0 := hx.load 0 1 rfl rfl; go_simp; all_goals exact rfl) ?_
  simp only [sA, sB]
  refine lv 8 (.pointer (some ⟨w.heap.size + 1, 1, none⟩)) rfl rfl (by intro x hx; go_simp; all_goals exact rfl) ?_
  simp only [sA, sB]
  refine lv 9 (.int .i64 (ti (x1.hi))) rfl rfl (by intro x hx; have f0 := hx.load 1 1 rfl rfl; go_simp; all_goals exact rfl) ?_
  simp only [sA, sB]
  refine lv 10 (.bool (leI x0.hi x1.hi)) rfl rfl (by intro x hx; go_simp; (first | done | exact leIT x0.hi x1.hi | exact congrArg _ (leIT x0.hi x1.hi) | (rw [leIT x0.hi x1.hi]; done) | (rw [leIT x0.hi x1.hi]; rfl))) ?_
  simp only [sA, sB]
  refine lv 11 (.bool (leI x0.hi x1.hi)) rfl rfl (by intro x hx; go_simp; all_goals exact rfl) ?_
  simp only [sA, sB]
  refine la 12 16 rfl rfl rfl rfl ?_
  simp only [sA, sB]
  clear HS
  refine ld fun W1 HS => ?_
  go_wp2
  have HF : span_within_int64 x0 x1 = leI x0.hi x1.hi := by
    unfold span_within_int64
    rw [cond_t h1.out]
  exact bodyPost_ret (v := .bool (leI x0.hi x1.hi)) (by simp [results, Tryz.results87, go_sem]) rfl ⟨(by first | (rw [HF]; done) | (rw [HF]; rfl)), HS.out.below⟩
theorem span_Sin_any (x0 : P) (x1 : BitVec 64)   (w : World) :
  Calls Tryz.prog 34 #[vI x0, .int .i64 (ti (x1))] w fun e w' => e = .returned (.bool ((span_within_int64 (P.mk x1 x1) x0))) ∧ Below w.heap.size w w' := by
 simp only [vI]
 go_enter Tryz.func34, Tryz.ntmps34
 have HS : Hid (St w [⟨w.heap.size, [some (.int .i64 (ti (x0.lo))), some (.int .i64 (ti (x0.hi)))], 29⟩] _) := hid ((st_nil w).alloc (k := w.heap.size) rfl [.int .i64 (ti (x0.lo)), .int .i64 (ti (x0.hi))] 29)
 go_upto_region 1 with fail
 refine upb 6 (HS.out.drew) rfl ?_
 refine tm 0 1 rfl rfl rfl rfl ?_
 simp only [sA, sB]
 refine tc 1 59 #[.int .i64 (ti (x1))] (vI (P.mk x1 x1)) rfl rfl (by intro x hx; exact span_only_int64_any x1 _) ?_
 simp only [sA, sB, vI]
 refine tv 2 (vI x0) rfl rfl (by intro x hx; obtain ⟨f0, f1⟩ := hx.two 0 0 rfl rfl; go_simp; all_goals exact rfl) ?_
 simp only [sA, sB, vI]
 refine tc 3 88 #[vI x0] (vI x0) rfl rfl (by intro x hx; exact span_signed_any x0 _) ?_
 simp only [sA, sB, vI]
 refine tc 4 87 #[vI (P.mk x1 x1), vI x0] (.bool (span_within_int64 (P.mk x1 x1) x0)) rfl rfl (by intro x hx; exact span_within_int64_any (P.mk x1 x1) x0 _) ?_
 simp only [sA, sB]
 refine ta 5 9 rfl rfl rfl rfl ?_
 simp only [sA, sB]
 clear HS
 refine td fun W1 HS => ?_
 go_wp2
 exact bodyPost_ret (v := .bool (span_within_int64 (P.mk x1 x1) x0)) (by simp [results, Tryz.results34, go_sem]) rfl ⟨rfl, HS.out.below⟩
def span_meet_int64 (x0 : P) (x1 : P)  : P × Bool :=
 bif gtI (maxI x0.lo x1.lo) (minI x0.hi x1.hi) then ((P.mk 0#64 0#64, false)) else ((P.mk (maxI x0.lo x1.lo) (minI x0.hi x1.hi), true))
theorem span_meet_int64_any (x0 : P) (x1 : P)   (w : World) :
   Calls Tryz.prog 99 #[vI x0, vI x1] w fun e w' => e = .returned (.tuple #[vI ((span_meet_int64 x0 x1).1), .bool ((span_meet_int64 x0 x1).2)]) ∧ Below w.heap.size w w' := by
 simp only [vI]
 go_enter Tryz.func99, Tryz.ntmps99
 have HS : Hid (St w [⟨w.heap.size, [some (.int .i64 (ti (x0.lo))), some (.int .i64 (ti (x0.hi)))], 93⟩, ⟨w.heap.size + 1, [some (.int .i64 (ti (x1.lo))), some (.int .i64 (ti (x1.hi)))], 93⟩, ⟨w.heap.size + 2, [some (.int .i64 0), some (.int .i64 0)], 93⟩] _) := hid ((((st_nil w).alloc (k := w.heap.size) rfl [.int .i64 (ti (x0.lo)), .int .i64 (ti (x0.hi))] 93).alloc (k := w.heap.size + 1) (by simp) [.int .i64 (ti (x1.lo)), .int .i64 (ti (x1.hi))] 93).alloc (k := w.heap.size + 2) (by simp) [.int .i64 0, .int .i64 0] 93)
 go_upto_region 1 with fail
 refine lnb HS.out rfl ?_
 refine lv 0 (.pointer (some ⟨w.heap.size, 0, none⟩)) rfl rfl (by intro x hx; go_simp; all_goals exact rfl) ?_
 simp only [sA, sB]
 refine lv 1 (.int .i64 (ti (x0.lo))) rfl rfl (by intro x hx; have f0 := hx.load 0 0 rfl rfl; go_simp; all_goals exact rfl) ?_
 simp only [sA, sB]
 refine lv 2 (.pointer (some ⟨w.heap.size + 1, 0, none⟩)) rfl rfl (by intro x hx; go_simp; all_goals exact rfl) ?_
 simp only [sA, sB]
 refine lv 3 (.int .i64 (ti (x1.lo))) rfl rfl (by intro x hx; have f0 := hx.load 1 0 rfl rfl; go_simp; all_goals exact rfl) ?_
 simp only [sA, sB]
 refine lv 4 (.int .i64 (ti (maxI x0.lo x1.lo))) rfl rfl (by intro x hx; go_simp; (first | done | exact maxIT x0.lo x1.lo)) ?_
 simp only [sA, sB]
 refine lv 5 (.pointer (some ⟨w.heap.size, 1, none⟩)) rfl rfl (by intro x hx; go_simp; all_goals exact rfl) ?_
 simp only [sA, sB]
 refine lv 6 (.int .i64 (ti (x0.hi))) rfl rfl (by intro x hx; have f0 := hx.load 0 1 rfl rfl; go_simp; all_goals exact rfl) ?_
 simp only [sA, sB]
 refine lv 7 (.pointer (some ⟨w.heap.size + 1, 1, none⟩)) rfl rfl (by intro x hx; go_simp; all_goals exact rfl) ?_
 simp only [sA, sB]
 refine lv 8 (.int .i64 (ti (x1.hi))) rfl rfl (by intro x hx; have f0 := hx.load 1 1 rfl rfl; go_simp; all_goals exact rfl) ?_
 simp only [sA, sB]
 refine lv 9 (.int .i64 (ti (minI x0.hi x1.hi))) rfl rfl (by intro x hx; go_simp; (first | done | exact minIT x0.hi x1.hi)) ?_
 simp only [sA, sB]
 refine lv 10 (vI (P.mk (maxI x0.lo x1.lo) (minI x0.hi x1.hi))) rfl rfl (by intro x hx; go_simp; all_goals exact rfl) ?_
 simp only [sA, sB, vI]
 refine lin_new (i := 11) rfl rfl (by rfl) [.int .i64 0, .int .i64 0] 93 (fun k => .pointer (some ⟨k, 0, none⟩)) [some (.int .i64 0), some (.int .i64 0)] (lessC_refl _) (by intro x hx; go_simp; all_goals exact rfl) (fun k1 => ?_)
 simp only [sA, sB, sC, sD]
 refine ls 12 3 0 (cI (P.mk (maxI x0.lo x1.lo) (minI x0.hi x1.hi))) rfl rfl rfl (by intro x hx; obtain ⟨⟨_, z0, q0⟩, ⟨_, z1, q1⟩⟩ := hx.at2 3 0 rfl; go_simp; all_goals rfl) ?_
 simp only [Blk.putC, setM, cI, sA, sB]
 clear HS
 refine ld fun W1 HS => ?_
 go_upto_region 2 with fail
 refine lnb HS.out rfl ?_
 refine lv 0 (.pointer (some ⟨k1, 0, none⟩)) rfl rfl (by intro x hx; go_simp; all_goals exact rfl) ?_
 simp only [sA, sB]
 refine lv 1 (.int .i64 (ti (maxI x0.lo x1.lo))) rfl rfl (by intro x hx; have f0 := hx.load 3 0 rfl rfl; go_simp; all_goals exact rfl) ?_
 simp only [sA, sB]
 refine lv 2 (.pointer (some ⟨k1, 1, none⟩)) rfl rfl (by intro x hx; go_simp; all_goals exact rfl) ?_
 simp only [sA, sB]
 refine lv 3 (.int .i64 (ti (minI x0.hi x1.hi))) rfl rfl (by intro x hx; have f0 := hx.load 3 1 rfl rfl; go_simp; all_goals exact rfl) ?_
 simp only [sA, sB]
 refine lv 4 (.bool (gtI (maxI x0.lo x1.lo) (minI x0.hi x1.hi))) rfl rfl (by intro x hx; go_simp; (first | done | exact gtIT (maxI x0.lo x1.lo) (minI x0.hi x1.hi) | exact congrArg _ (gtIT (maxI x0.lo x1.lo) (minI x0.hi x1.hi)) | (rw [gtIT (maxI x0.lo x1.lo) (minI x0.hi x1.hi)]; done) | (rw [gtIT (maxI x0.lo x1.lo) (minI x0.hi x1.hi)]; rfl))) ?_
 simp only [sA, sB]
 clear HS
 refine ld fun W2 HS => ?_
 cases h1 : (gtI (maxI x0.lo x1.lo) (minI x0.hi x1.hi))
 ·replace h1 := hid h1
  go_upto_region 4 with fail
  refine lnb HS.out rfl ?_
  refine lv 0 (vI (P.mk (maxI x0.lo x1.lo) (minI x0.hi x1.hi))) rfl rfl (by intro x hx; obtain ⟨f0, f1⟩ := hx.two 3 0 rfl rfl; go_simp; all_goals exact rfl) ?_
  simp only [sA, sB, vI]
  refine ls 1 2 0 (cI (P.mk (maxI x0.lo x1.lo) (minI x0.hi x1.hi))) rfl rfl rfl (by intro x hx; obtain ⟨⟨_, z0, q0⟩, ⟨_, z1, q1⟩⟩ := hx.at2 2 0 rfl; go_simp; all_goals rfl) ?_
  simp only [Blk.putC, setM, cI, sA, sB]
  refine lv 2 (.bool true) rfl rfl (by intro x hx; go_simp; all_goals exact rfl) ?_
  simp only [sA, sB]
  clear HS
  refine ld fun W3 HS => ?_
  go_wp2
  obtain ⟨r0, r1⟩ := HS.out.two 2 0 rfl rfl
  have HF : span_meet_int64 x0 x1 = (P.mk (maxI x0.lo x1.lo) (minI x0.hi x1.hi), true) := by
    unfold span_meet_int64
    rw [cond_f h1.out]
  exact bodyPost_ret (v := .tuple #[vI (P.mk (maxI x0.lo x1.lo) (minI x0.hi x1.hi)), .bool true]) (by simp [results, Tryz.results99, go_sem, r0, r1, vI]) rfl ⟨(by first | (rw [HF]; done) | (rw [HF]; rfl)), HS.out.below⟩
 ·replace h1 := hid h1
  go_upto_region 3 with fail
  refine lnb HS.out rfl ?_
  refine lv 0 (.agg #[.int .i64 0, .int .i64 0]) rfl rfl (by intro x hx; go_simp; all_goals exact rfl) ?_
  simp only [sA, sB]
  refine ls 1 2 0 [.int .i64 0, .int .i64 0] rfl rfl rfl (by intro x hx; obtain ⟨⟨_, z0, q0⟩, ⟨_, z1, q1⟩⟩ := hx.at2 2 0 rfl; go_simp; all_goals rfl) ?_
  simp only [Blk.putC, setM, sA, sB]
  refine lv 2 (.bool false) rfl rfl (by intro x hx; go_simp; all_goals exact rfl) ?_
  simp only [sA, sB]
  clear HS
  refine ld fun W3 HS => ?_
  go_wp2
  obtain ⟨r0, r1⟩ := HS.out.two 2 0 rfl rfl
  have HF : span_meet_int64 x0 x1 = (P.mk 0#64 0#64, false) := by
    unfold span_meet_int64
    rw [cond_t h1.out]
  exact bodyPost_ret (v := .tuple #[.agg #[.int .i64 0, .int .i64 0], .bool false]) (by simp [results, Tryz.results99, go_sem, r0, r1]) rfl ⟨(by first | (rw [HF]; done) | (rw [HF]; rfl)), HS.out.below⟩
theorem span_Smeet_any (x0 : P) (x1 : P)   (w : World) :
  Calls Tryz.prog 47 #[vI x0, vI x1] w fun e w' => e = .returned (.tuple #[vI ((span_meet_int64 x0 x1).1), .bool ((span_meet_int64 x0 x1).2)]) ∧ Below w.heap.size w w' := by
 simp only [vI]
 go_enter Tryz.func47, Tryz.ntmps47
 have HS : Hid (St w [⟨w.heap.size, [some (.int .i64 (ti (x0.lo))), some (.int .i64 (ti (x0.hi)))], 29⟩, ⟨w.heap.size + 1, [some (.int .i64 (ti (x1.lo))), some (.int .i64 (ti (x1.hi)))], 29⟩, ⟨w.heap.size + 2, [some (.int .i64 0), some (.int .i64 0)], 29⟩] _) := hid ((((st_nil w).alloc (k := w.heap.size) rfl [.int .i64 (ti (x0.lo)), .int .i64 (ti (x0.hi))] 29).alloc (k := w.heap.size + 1) (by simp) [.int .i64 (ti (x1.lo)), .int .i64 (ti (x1.hi))] 29).alloc (k := w.heap.size + 2) (by simp) [.int .i64 0, .int .i64 0] 29)
 go_upto_region 1 with fail
 refine upb 11 (HS.out.drew) rfl ?_
 refine tv 0 (vI x0) rfl rfl (by intro x hx; obtain ⟨f0, f1⟩ := hx.two 0 0 rfl rfl; go_simp; all_goals exact rfl) ?_
 simp only [sA, sB, vI]
 refine tc 1 88 #[vI x0] (vI x0) rfl rfl (by intro x hx; exact span_signed_any x0 _) ?_
 simp only [sA, sB, vI]
 refine tv 2 (vI x1) rfl rfl (by intro x hx; obtain ⟨f0, f1⟩ := hx.two 1 0 rfl rfl; go_simp; all_goals exact rfl) ?_
 simp only [sA, sB, vI]
 refine tc 3 88 #[vI x1] (vI x1) rfl rfl (by intro x hx; exact span_signed_any x1 _) ?_
 simp only [sA, sB, vI]
 refine tc 4 99 #[vI x0, vI x1] (.tuple #[vI ((span_meet_int64 x0 x1).1), .bool ((span_meet_int64 x0 x1).2)]) rfl rfl (by intro x hx; exact span_meet_int64_any x0 x1 _) ?_
 simp only [sA, sB, vI]
 refine tm 5 13 rfl rfl rfl rfl ?_
 simp only [sA, sB]
 refine tv 6 (vI ((span_meet_int64 x0 x1).1)) rfl rfl (by intro x hx; go_simp; all_goals exact rfl) ?_
 simp only [sA, sB, vI]
 refine tv 7 (.bool ((span_meet_int64 x0 x1).2)) rfl rfl (by intro x hx; go_simp; all_goals exact rfl) ?_
 simp only [sA, sB]
 refine take_one (i := 8) (by kernel_rfl) (step_new rfl rfl (by rfl) [.int .i64 0, .int .i64 0] 93 (fun k => .pointer (some ⟨k, 0, none⟩)) [none, none] (lessC_no (lessC_no (trivial))) (by intro x hx; go_simp; all_goals exact rfl) (fun k1 => ?_))
 simp only [sA, sB, sC, sD]
 refine ts 9 3 0 (cI ((span_meet_int64 x0 x1).1)) rfl rfl rfl (by intro x hx; obtain ⟨⟨_, z0, q0⟩, ⟨_, z1, q1⟩⟩ := hx.at2 3 0 rfl; go_simp; all_goals rfl) ?_
 simp only [Blk.putC, setM, cI, sA, sB]
 refine ta 10 15 rfl rfl rfl rfl ?_
 simp only [sA, sB]
 clear HS
 refine td fun W1 HS => ?_
 go_upto_region 2 with fail
 refine lnb HS.out rfl ?_
 refine lv 0 (vI ((span_meet_int64 x0 x1).1)) rfl rfl (by intro x hx; obtain ⟨f0, f1⟩ := hx.two 3 0 rfl rfl; go_simp; all_goals exact rfl) ?_
 simp only [sA, sB, vI]
 refine lc 1 58 #[vI ((span_meet_int64 x0 x1).1)] (vI ((span_meet_int64 x0 x1).1)) rfl rfl (by intro x hx; exact span_toSigned_any ((span_meet_int64 x0 x1).1) _) ?_
 simp only [sA, sB, vI]
 refine lm 2 7 rfl rfl rfl rfl ?_
 simp only [sA, sB]
 refine ls 3 2 0 (cI ((span_meet_int64 x0 x1).1)) rfl rfl rfl (by intro x hx; obtain ⟨⟨_, z0, q0⟩, ⟨_, z1, q1⟩⟩ := hx.at2 2 0 rfl; go_simp; all_goals rfl) ?_
 simp only [Blk.putC, setM, cI, sA, sB]
 refine la 4 18 rfl rfl rfl rfl ?_
 simp only [sA, sB]
 clear HS
 refine ld fun W2 HS => ?_
 go_wp2
 obtain ⟨r0, r1⟩ := HS.out.two 2 0 rfl rfl
 exact bodyPost_ret (v := .tuple #[vI ((span_meet_int64 x0 x1).1), .bool ((span_meet_int64 x0 x1).2)]) (by simp [results, Tryz.results47, go_sem, r0, r1, vI]) rfl ⟨rfl, HS.out.below⟩
theorem span_sum_int64_any (x0 : BitVec 64) (x1 : BitVec 64)   (w : World) :
  Calls Tryz.prog 129 #[.int .i64 (ti (x0)), .int .i64 (ti (x1))] w fun e w' => e = .returned (.tuple #[.int .i64 (ti (x0 + x1)), .bool (((geI (x0 + x1) x0) == (geI x1 0#64)))]) ∧ Below w.heap.size w w' := by
 go_enter Tryz.func129, Tryz.ntmps129
 have HS : Hid (St w [] _) := hid (st_nil w)
 go_upto_region 1 with fail
 refine lnb HS.out rfl ?_
 refine lm 0 0 rfl rfl rfl rfl ?_
 simp only [sA, sB]
 refine lm 1 1 rfl rfl rfl rfl ?_
 simp only [sA, sB]
 refine lv 2 (.int .i64 (ti (x0 + x1))) rfl rfl (by intro x hx; go_simp; (first | done | exact addIT x0 x1 | exact congrArg _ (addIT x0 x1) | (rw [addIT x0 x1]; done) | (rw [addIT x0 x1]; rfl))) ?_
 simp only [sA, sB]
 refine la 3 9 rfl rfl rfl rfl ?_
 simp only [sA, sB]
 clear HS
 refine ld fun W1 HS => ?_
 go_upto_region 2 with fail
 refine lnb HS.out rfl ?_
 refine lm 0 6 rfl rfl rfl rfl ?_
 simp only [sA, sB]
 refine lm 1 6 rfl rfl rfl rfl ?_
 simp only [sA, sB]
 refine lm 2 0 rfl rfl rfl rfl ?_
 simp only [sA, sB]
 refine lv 3 (.bool (geI (x0 + x1) x0)) rfl rfl (by intro x hx; go_simp; (first | done | exact geIT (x0 + x1) x0 | exact congrArg _ (geIT (x0 + x1) x0) | (rw [geIT (x0 + x1) x0]; done) | (rw [geIT (x0 + x1) x0]; rfl))) ?_
 simp only [sA, sB]
 refine lm 4 1 rfl rfl rfl rfl ?_
 simp only [sA, sB]
 refine lv 5 (.bool (geI x1 0#64)) rfl rfl (by intro x hx; go_simp; (first | done | exact geIT x1 0#64 | exact congrArg _ (geIT x1 0#64) | (rw [geIT x1 0#64]; done) | (rw [geIT x1 0#64]; rfl))) ?_
 simp only [sA, sB]
 refine lv 6 (.bool (((geI (x0 + x1) x0) == (geI x1 0#64)))) rfl rfl (by intro x hx; go_simp; all_goals exact rfl) ?_
 simp only [sA, sB]
 refine la 7 10 rfl rfl rfl rfl ?_
 simp only [sA, sB]
 refine la 8 16 rfl rfl rfl rfl ?_
 simp only [sA, sB]
 clear HS
 refine ld fun W2 HS => ?_
 go_wp2
 exact bodyPost_ret (v := .tuple #[.int .i64 (ti (x0 + x1)), .bool (((geI (x0 + x1) x0) == (geI x1 0#64)))]) (by simp [results, Tryz.results129, go_sem]) rfl ⟨rfl, HS.out.below⟩
def span_add_int64 (x0 : P) (x1 : P)  : P × Bool × Bool :=
 (P.mk (x0.lo + x1.lo) (x0.hi + x1.hi), ((geI (x0.lo + x1.lo) x0.lo) == (geI x1.lo 0#64)), ((geI (x0.hi + x1.hi) x0.hi) == (geI x1.hi 0#64)))
theorem span_add_int64_any (x0 : P) (x1 : P)   (w : World) :
  Calls Tryz.prog 110 #[vI x0, vI x1] w fun e w' => e = .returned (.tuple #[vI ((span_add_int64 x0 x1).1), .bool ((span_add_int64 x0 x1).2.1), .bool ((span_add_int64 x0 x1).2.2)]) ∧ Below w.heap.size w w' := by
 simp only [vI]
 go_enter Tryz.func110, Tryz.ntmps110
 have HS : Hid (St w [⟨w.heap.size, [some (.int .i64 (ti (x0.lo))), some (.int .i64 (ti (x0.hi)))], 93⟩, ⟨w.heap.size + 1, [some (.int .i64 (ti (x1.lo))), some (.int .i64 (ti (x1.hi)))], 93⟩, ⟨w.heap.size + 2, [some (.int .i64 0), some (.int .i64 0)], 93⟩] _) := hid ((((st_nil w).alloc (k := w.heap.size) rfl [.int .i64 (ti (x0.lo)), .int .i64 (ti (x0.hi))] 93).alloc (k := w.heap.size + 1) (by simp) [.int .i64 (ti (x1.lo)), .int .i64 (ti (x1.hi))] 93).alloc (k := w.heap.size + 2) (by simp) [.int .i64 0, .int .i64 0] 93)
 go_upto_region 1 with fail
 refine lnb HS.out rfl ?_
 refine lv 0 (.pointer (some ⟨w.heap.size, 0, none⟩)) rfl rfl (by intro x hx; go_simp; all_goals exact rfl) ?_
 simp only [sA, sB]
 refine lv 1 (.int .i64 (ti (x0.lo))) rfl rfl (by intro x hx; have f0 := hx.load 0 0 rfl rfl; go_simp; all_goals exact rfl) ?_
 simp only [sA, sB]
 refine lv 2 (.pointer (some ⟨w.heap.size + 1, 0, none⟩)) rfl rfl (by intro x hx; go_simp; all_goals exact rfl) ?_
 simp only [sA, sB]
 refine lv 3 (.int .i64 (ti (x1.lo))) rfl rfl (by intro x hx; have f0 := hx.load 1 0 rfl rfl; go_simp; all_goals exact rfl) ?_
 simp only [sA, sB]
 refine lc 4 129 #[.int .i64 (ti (x0.lo)), .int .i64 (ti (x1.lo))] (.tuple #[.int .i64 (ti (x0.lo + x1.lo)), .bool (((geI (x0.lo + x1.lo) x0.lo) == (geI x1.lo 0#64)))]) rfl rfl (by intro x hx; exact span_sum_int64_any x0.lo x1.lo _) ?_
 simp only [sA, sB]
 refine lm 5 12 rfl rfl rfl rfl ?_
 simp only [sA, sB]
 refine lv 6 (.int .i64 (ti (x0.lo + x1.lo))) rfl rfl (by intro x hx; go_simp; all_goals exact rfl) ?_
 simp only [sA, sB]
 refine lv 7 (.bool (((geI (x0.lo + x1.lo) x0.lo) == (geI x1.lo 0#64)))) rfl rfl (by intro x hx; go_simp; all_goals exact rfl) ?_
 simp only [sA, sB]
 refine lv 8 (.pointer (some ⟨w.heap.size + 2, 0, none⟩)) rfl rfl (by intro x hx; go_simp; all_goals exact rfl) ?_
 simp only [sA, sB]
 refine ls 9 2 0 [.int .i64 (ti (x0.lo + x1.lo))] rfl rfl rfl (by intro x hx; obtain ⟨_, z0, q0⟩ := hx.at1 2 0 rfl; go_simp; all_goals rfl) ?_
 simp only [Blk.putC, setM, sA, sB]
 refine la 10 14 rfl rfl rfl rfl ?_
 simp only [sA, sB]
 clear HS
 refine ld fun W1 HS => ?_
 go_upto_region 2 with fail
 refine lnb HS.out rfl ?_
 refine lv 0 (.pointer (some ⟨w.heap.size, 1, none⟩)) rfl rfl (by intro x hx; go_simp; all_goals exact rfl) ?_
 simp only [sA, sB]
 refine lv 1 (.int .i64 (ti (x0.hi))) rfl rfl (by intro x hx; have f0 := hx.load 0 1 rfl rfl; go_simp; all_goals exact rfl) ?_
 simp only [sA, sB]
 refine lv 2 (.pointer (some ⟨w.heap.size + 1, 1, none⟩)) rfl rfl (by intro x hx; go_simp; all_goals exact rfl) ?_
 simp only [sA, sB]
 refine lv 3 (.int .i64 (ti (x1.hi))) rfl rfl (by intro x hx; have f0 := hx.load 1 1 rfl rfl; go_simp; all_goals exact rfl) ?_
 simp only [sA, sB]
 refine lc 4 129 #[.int .i64 (ti (x0.hi)), .int .i64 (ti (x1.hi))] (.tuple #[.int .i64 (ti (x0.hi + x1.hi)), .bool (((geI (x0.hi + x1.hi) x0.hi) == (geI x1.hi 0#64)))]) rfl rfl (by intro x hx; exact span_sum_int64_any x0.hi x1.hi _) ?_
 simp only [sA, sB]
 refine lm 5 21 rfl rfl rfl rfl ?_
 simp only [sA, sB]
 refine lv 6 (.int .i64 (ti (x0.hi + x1.hi))) rfl rfl (by intro x hx; go_simp; all_goals exact rfl) ?_
 simp only [sA, sB]
 refine lv 7 (.bool (((geI (x0.hi + x1.hi) x0.hi) == (geI x1.hi 0#64)))) rfl rfl (by intro x hx; go_simp; all_goals exact rfl) ?_
 simp only [sA, sB]
 refine lv 8 (.pointer (some ⟨w.heap.size + 2, 1, none⟩)) rfl rfl (by intro x hx; go_simp; all_goals exact rfl) ?_
 simp only [sA, sB]
 refine ls 9 2 1 [.int .i64 (ti (x0.hi + x1.hi))] rfl rfl rfl (by intro x hx; obtain ⟨_, z0, q0⟩ := hx.at1 2 1 rfl; go_simp; all_goals rfl) ?_
 simp only [Blk.putC, setM, sA, sB]
 refine la 10 23 rfl rfl rfl rfl ?_
 simp only [sA, sB]
 clear HS
 refine ld fun W2 HS => ?_
 go_upto_region 3 with fail
 refine lnb HS.out rfl ?_
 refine lv 0 (vI (P.mk (x0.lo + x1.lo) (x0.hi + x1.hi))) rfl rfl (by intro x hx; obtain ⟨f0, f1⟩ := hx.two 2 0 rfl rfl; go_simp; all_goals exact rfl) ?_
 simp only [sA, sB, vI]
 refine lm 1 5 rfl rfl rfl rfl ?_
 simp only [sA, sB]
 refine lm 2 6 rfl rfl rfl rfl ?_
 simp only [sA, sB]
 refine ls 3 2 0 (cI (P.mk (x0.lo + x1.lo) (x0.hi + x1.hi))) rfl rfl rfl (by intro x hx; obtain ⟨⟨_, z0, q0⟩, ⟨_, z1, q1⟩⟩ := hx.at2 2 0 rfl; go_simp; all_goals rfl) ?_
 simp only [Blk.putC, setM, cI, sA, sB]
 refine la 4 26 rfl rfl rfl rfl ?_
 simp only [sA, sB]
 refine la 5 27 rfl rfl rfl rfl ?_
 simp only [sA, sB]
 clear HS
 refine ld fun W3 HS => ?_
 go_wp2
 obtain ⟨r0, r1⟩ := HS.out.two 2 0 rfl rfl
 have HF : span_add_int64 x0 x1 = (P.mk (x0.lo + x1.lo) (x0.hi + x1.hi), ((geI (x0.lo + x1.lo) x0.lo) == (geI x1.lo 0#64)), ((geI (x0.hi + x1.hi) x0.hi) == (geI x1.hi 0#64))) := by
  unfold span_add_int64
  rfl
 exact bodyPost_ret (v := .tuple #[vI (P.mk (x0.lo + x1.lo) (x0.hi + x1.hi)), .bool (((geI (x0.lo + x1.lo) x0.lo) == (geI x1.lo 0#64))), .bool (((geI (x0.hi + x1.hi) x0.hi) == (geI x1.hi 0#64)))]) (by simp [results, Tryz.results110, go_sem, r0, r1, vI]) rfl ⟨(by first | (rw [HF]; done) | (rw [HF]; rfl)), HS.out.below⟩
def span_both (x0 : P) (x1 : Bool) (x2 : Bool)  : P :=
 bif (!x1) then (P.mk 9223372036854775808#64 9223372036854775807#64) else (bif (!x2) then (P.mk 9223372036854775808#64 9223372036854775807#64) else (x0))
theorem span_both_any (x0 : P) (x1 : Bool) (x2 : Bool)   (w : World) :
   Calls Tryz.prog 111 #[vI x0, .bool (x1), .bool (x2)] w fun e w' => e = .returned (vI (span_both x0 x1 x2)) ∧ Below w.heap.size w w' := by
 simp only [vI]
 go_enter Tryz.func111, Tryz.ntmps111
 have HS : Hid (St w [⟨w.heap.size, [some (.int .i64 (ti (x0.lo))), some (.int .i64 (ti (x0.hi)))], 93⟩, ⟨w.heap.size + 1, [some (.int .i64 0), some (.int .i64 0)], 29⟩] _) := hid (((st_nil w).alloc (k := w.heap.size) rfl [.int .i64 (ti (x0.lo)), .int .i64 (ti (x0.hi))] 93).alloc (k := w.heap.size + 1) (by simp) [.int .i64 0, .int .i64 0] 29)
 go_upto_region 1 with fail
 refine lnb HS.out rfl ?_
 refine lm 0 1 rfl rfl rfl rfl ?_
 simp only [sA, sB]
 refine lv 1 (.bool ((!x1))) rfl rfl (by intro x hx; go_simp; all_goals exact rfl) ?_
 simp only [sA, sB]
 refine lm 2 8 rfl rfl rfl rfl ?_
 simp only [sA, sB]
 cases h1 : ((!x1))
 ·replace h1 := hid h1
  refine lv 3 (.bool (x2)) rfl rfl (by intro x hx; go_simp; all_goals exact rfl) ?_
  simp only [sA, sB]
  refine lv 4 (.bool ((!x2))) rfl rfl (by intro x hx; go_simp; all_goals exact rfl) ?_
  simp only [sA, sB]
  refine lv 5 (.bool ((!x2))) rfl rfl (by intro x hx; go_simp; all_goals exact rfl) ?_
  simp only [sA, sB]
  clear HS
  refine ld fun W1 HS => ?_
  cases h2 : ((!x2))
  ·replace h2 := hid h2
   go_upto_region 3 with fail
   refine lnb HS.out rfl ?_
   refine lv 0 (vI x0) rfl rfl (by intro x hx; obtain ⟨f0, f1⟩ := hx.two 0 0 rfl rfl; go_simp; all_goals exact rfl) ?_
   simp only [sA, sB, vI]
   refine lc 1 58 #[vI x0] (vI x0) rfl rfl (by intro x hx; exact span_toSigned_any x0 _) ?_
   simp only [sA, sB, vI]
   refine ls 2 1 0 (cI x0) rfl rfl rfl (by intro x hx; obtain ⟨⟨_, z0, q0⟩, ⟨_, z1, q1⟩⟩ := hx.at2 1 0 rfl; go_simp; all_goals rfl) ?_
   simp only [Blk.putC, setM, cI, sA, sB]
   clear HS
   refine ld fun W2 HS => ?_
   go_wp2
   obtain ⟨r0, r1⟩ := HS.out.two 1 0 rfl rfl
   have HF : span_both x0 x1 x2 = x0 := by
     unfold span_both
     rw [cond_f h1.out, cond_f h2.out]
   exact bodyPost_ret (v := vI x0) (by simp [results, Tryz.results111, go_sem, r0, r1, vI]) rfl ⟨(by first | (rw [HF]; done) | (rw [HF]; rfl)), HS.out.below⟩
  ·replace h2 := hid h2
   go_upto_region 2 with fail
   refine lnb HS.out rfl ?_
   refine lc 0 29 #[] (vI (P.mk 9223372036854775808#64 9223372036854775807#64)) rfl rfl (by intro x hx; exact span_Sall_any _) ?_
   simp only [sA, sB, vI]
   refine ls 1 1 0 (cI (P.mk 9223372036854775808#64 9223372036854775807#64)) rfl rfl rfl (by intro x hx; obtain ⟨⟨_, z0, q0⟩, ⟨_, z1, q1⟩⟩ := hx.at2 1 0 rfl; go_simp; all_goals rfl) ?_
   simp only [Blk.putC, setM, cI, sA, sB]
   clear HS
   refine ld fun W2 HS => ?_
   go_wp2
   obtain ⟨r0, r1⟩ := HS.out.two 1 0 rfl rfl
   have HF : span_both x0 x1 x2 = P.mk 9223372036854775808#64 9223372036854775807#64 := by
     unfold span_both
     rw [cond_f h1.out, cond_t h2.out]
   exact bodyPost_ret (v := vI (P.mk 9223372036854775808#64 9223372036854775807#64)) (by simp [results, Tryz.results111, go_sem, r0, r1, vI]) rfl ⟨(by first | (rw [HF]; done) | (rw [HF]; rfl)), HS.out.below⟩
 ·replace h1 := hid h1
  refine lin_no (i := 3) rfl rfl (by kernel_rfl) ?_
  simp only [sA, sB]
  refine lin_no (i := 4) rfl rfl (by kernel_rfl) ?_
  simp only [sA, sB]
  refine lv 5 (.bool true) rfl rfl (by intro x hx; go_simp; all_goals exact rfl) ?_
  simp only [sA, sB]
  clear HS
  refine ld fun W1 HS => ?_
  go_upto_region 2 with fail
  refine lnb HS.out rfl ?_
  refine lc 0 29 #[] (vI (P.mk 9223372036854775808#64 9223372036854775807#64)) rfl rfl (by intro x hx; exact span_Sall_any _) ?_
  simp only [sA, sB, vI]
  refine ls 1 1 0 (cI (P.mk 9223372036854775808#64 9223372036854775807#64)) rfl rfl rfl (by intro x hx; obtain ⟨⟨_, z0, q0⟩, ⟨_, z1, q1⟩⟩ := hx.at2 1 0 rfl; go_simp; all_goals rfl) ?_
  simp only [Blk.putC, setM, cI, sA, sB]
  clear HS
  refine ld fun W2 HS => ?_
  go_wp2
  obtain ⟨r0, r1⟩ := HS.out.two 1 0 rfl rfl
  have HF : span_both x0 x1 x2 = P.mk 9223372036854775808#64 9223372036854775807#64 := by
    unfold span_both
    rw [cond_t h1.out]
  exact bodyPost_ret (v := vI (P.mk 9223372036854775808#64 9223372036854775807#64)) (by simp [results, Tryz.results111, go_sem, r0, r1, vI]) rfl ⟨(by first | (rw [HF]; done) | (rw [HF]; rfl)), HS.out.below⟩
def span_Sadd (x0 : P) (x1 : P)  : P :=
 span_both ((span_add_int64 x0 x1).1) ((span_add_int64 x0 x1).2.1) ((span_add_int64 x0 x1).2.2)
theorem span_Sadd_any (x0 : P) (x1 : P)   (w : World) :
  Calls Tryz.prog 62 #[vI x0, vI x1] w fun e w' => e = .returned (vI (span_Sadd x0 x1)) ∧ Below w.heap.size w w' := by
 simp only [vI]
 go_enter Tryz.func62, Tryz.ntmps62
 have HS : Hid (St w [⟨w.heap.size, [some (.int .i64 (ti (x0.lo))), some (.int .i64 (ti (x0.hi)))], 29⟩, ⟨w.heap.size + 1, [some (.int .i64 (ti (x1.lo))), some (.int .i64 (ti (x1.hi)))], 29⟩, ⟨w.heap.size + 2, [some (.int .i64 0), some (.int .i64 0)], 29⟩] _) := hid ((((st_nil w).alloc (k := w.heap.size) rfl [.int .i64 (ti (x0.lo)), .int .i64 (ti (x0.hi))] 29).alloc (k := w.heap.size + 1) (by simp) [.int .i64 (ti (x1.lo)), .int .i64 (ti (x1.hi))] 29).alloc (k := w.heap.size + 2) (by simp) [.int .i64 0, .int .i64 0] 29)
 go_upto_region 1 with fail
 refine upb 13 (HS.out.drew) rfl ?_
 refine tv 0 (vI x0) rfl rfl (by intro x hx; obtain ⟨f0, f1⟩ := hx.two 0 0 rfl rfl; go_simp; all_goals exact rfl) ?_
 simp only [sA, sB, vI]
 refine tc 1 88 #[vI x0] (vI x0) rfl rfl (by intro x hx; exact span_signed_any x0 _) ?_
 simp only [sA, sB, vI]
 refine tv 2 (vI x1) rfl rfl (by intro x hx; obtain ⟨f0, f1⟩ := hx.two 1 0 rfl rfl; go_simp; all_goals exact rfl) ?_
 simp only [sA, sB, vI]
 refine tc 3 88 #[vI x1] (vI x1) rfl rfl (by intro x hx; exact span_signed_any x1 _) ?_
 simp only [sA, sB, vI]
 refine tc 4 110 #[vI x0, vI x1] (.tuple #[vI ((span_add_int64 x0 x1).1), .bool ((span_add_int64 x0 x1).2.1), .bool ((span_add_int64 x0 x1).2.2)]) rfl rfl (by intro x hx; exact span_add_int64_any x0 x1 _) ?_
 simp only [sA, sB, vI]
 refine tm 5 13 rfl rfl rfl rfl ?_
 simp only [sA, sB]
 refine tv 6 (vI ((span_add_int64 x0 x1).1)) rfl rfl (by intro x hx; go_simp; all_goals exact rfl) ?_
 simp only [sA, sB, vI]
 refine tv 7 (.bool ((span_add_int64 x0 x1).2.1)) rfl rfl (by intro x hx; go_simp; all_goals exact rfl) ?_
 simp only [sA, sB]
 refine tv 8 (.bool ((span_add_int64 x0 x1).2.2)) rfl rfl (by intro x hx; go_simp; all_goals exact rfl) ?_
 simp only [sA, sB]
 refine take_one (i := 9) (by kernel_rfl) (step_new rfl rfl (by rfl) [.int .i64 0, .int .i64 0] 93 (fun k => .pointer (some ⟨k, 0, none⟩)) [none, none] (lessC_no (lessC_no (trivial))) (by intro x hx; go_simp; all_goals exact rfl) (fun k1 => ?_))
 simp only [sA, sB, sC, sD]
 refine ts 10 3 0 (cI ((span_add_int64 x0 x1).1)) rfl rfl rfl (by intro x hx; obtain ⟨⟨_, z0, q0⟩, ⟨_, z1, q1⟩⟩ := hx.at2 3 0 rfl; go_simp; all_goals rfl) ?_
 simp only [Blk.putC, setM, cI, sA, sB]
 refine ta 11 15 rfl rfl rfl rfl ?_
 simp only [sA, sB]
 refine ta 12 16 rfl rfl rfl rfl ?_
 simp only [sA, sB]
 clear HS
 refine td fun W1 HS => ?_
 go_upto_region 2 with fail
 refine lnb HS.out rfl ?_
 refine lv 0 (vI ((span_add_int64 x0 x1).1)) rfl rfl (by intro x hx; obtain ⟨f0, f1⟩ := hx.two 3 0 rfl rfl; go_simp; all_goals exact rfl) ?_
 simp only [sA, sB, vI]
 refine lm 1 6 rfl rfl rfl rfl ?_
 simp only [sA, sB]
 refine lm 2 7 rfl rfl rfl rfl ?_
 simp only [sA, sB]
 refine lc 3 111 #[vI ((span_add_int64 x0 x1).1), .bool ((span_add_int64 x0 x1).2.1), .bool ((span_add_int64 x0 x1).2.2)] (vI (span_both ((span_add_int64 x0 x1).1) ((span_add_int64 x0 x1).2.1) ((span_add_int64 x0 x1).2.2))) rfl rfl (by intro x hx; exact span_both_any ((span_add_int64 x0 x1).1) ((span_add_int64 x0 x1).2.1) ((span_add_int64 x0 x1).2.2) _) ?_
 simp only [sA, sB, vI]
 refine ls 4 2 0 (cI (span_both ((span_add_int64 x0 x1).1) ((span_add_int64 x0 x1).2.1) ((span_add_int64 x0 x1).2.2))) rfl rfl rfl (by intro x hx; obtain ⟨⟨_, z0, q0⟩, ⟨_, z1, q1⟩⟩ := hx.at2 2 0 rfl; go_simp; all_goals rfl) ?_
 simp only [Blk.putC, setM, cI, sA, sB]
 clear HS
 refine ld fun W2 HS => ?_
 go_wp2
 obtain ⟨r0, r1⟩ := HS.out.two 2 0 rfl rfl
 have HF : span_Sadd x0 x1 = span_both ((span_add_int64 x0 x1).1) ((span_add_int64 x0 x1).2.1) ((span_add_int64 x0 x1).2.2) := by
  unfold span_Sadd
  rfl
 exact bodyPost_ret (v := vI (span_both ((span_add_int64 x0 x1).1) ((span_add_int64 x0 x1).2.1) ((span_add_int64 x0 x1).2.2))) (by simp [results, Tryz.results62, go_sem, r0, r1, vI]) rfl ⟨(by first | (rw [HF]; done) | (rw [HF]; rfl)), HS.out.below⟩
theorem span_difference_int64_any (x0 : BitVec 64) (x1 : BitVec 64)   (w : World) :
  Calls Tryz.prog 138 #[.int .i64 (ti (x0)), .int .i64 (ti (x1))] w fun e w' => e = .returned (.tuple #[.int .i64 (ti (x0 - x1)), .bool (((leI (x0 - x1) x0) == (geI x1 0#64)))]) ∧ Below w.heap.size w w' := by
 go_enter Tryz.func138, Tryz.ntmps138
 have HS : Hid (St w [] _) := hid (st_nil w)
 go_upto_region 1 with fail
 refine lnb HS.out rfl ?_
 refine lm 0 0 rfl rfl rfl rfl ?_
 simp only [sA, sB]
 refine lm 1 1 rfl rfl rfl rfl ?_
 simp only [sA, sB]
 refine lv 2 (.int .i64 (ti (x0 - x1))) rfl rfl (by intro x hx; go_simp; (first | done | exact subIT x0 x1 | exact congrArg _ (subIT x0 x1) | (rw [subIT x0 x1]; done) | (rw [subIT x0 x1]; rfl))) ?_
 simp only [sA, sB]
 refine la 3 9 rfl rfl rfl rfl ?_
 simp only [sA, sB]
 clear HS
 refine ld fun W1 HS => ?_
 go_upto_region 2 with fail
 refine lnb HS.out rfl ?_
 refine lm 0 6 rfl rfl rfl rfl ?_
 simp only [sA, sB]
 refine lm 1 6 rfl rfl rfl rfl ?_
 simp only [sA, sB]
 refine lm 2 0 rfl rfl rfl rfl ?_
 simp only [sA, sB]
 refine lv 3 (.bool (leI (x0 - x1) x0)) rfl rfl (by intro x hx; go_simp; (first | done | exact leIT (x0 - x1) x0 | exact congrArg _ (leIT (x0 - x1) x0) | (rw [leIT (x0 - x1) x0]; done) | (rw [leIT (x0 - x1) x0]; rfl))) ?_
 simp only [sA, sB]
 refine lm 4 1 rfl rfl rfl rfl ?_
 simp only [sA, sB]
 refine lv 5 (.bool (geI x1 0#64)) rfl rfl (by intro x hx; go_simp; (first | done | exact geIT x1 0#64 | exact congrArg _ (geIT x1 0#64) | (rw [geIT x1 0#64]; done) | (rw [geIT x1 0#64]; rfl))) ?_
 simp only [sA, sB]
 refine lv 6 (.bool (((leI (x0 - x1) x0) == (geI x1 0#64)))) rfl rfl (by intro x hx; go_simp; all_goals exact rfl) ?_
 simp only [sA, sB]
 refine la 7 10 rfl rfl rfl rfl ?_
 simp only [sA, sB]
 refine la 8 16 rfl rfl rfl rfl ?_
 simp only [sA, sB]
 clear HS
 refine ld fun W2 HS => ?_
 go_wp2
 exact bodyPost_ret (v := .tuple #[.int .i64 (ti (x0 - x1)), .bool (((leI (x0 - x1) x0) == (geI x1 0#64)))]) (by simp [results, Tryz.results138, go_sem]) rfl ⟨rfl, HS.out.below⟩
def span_sub_int64 (x0 : P) (x1 : P)  : P × Bool × Bool :=
 (P.mk (x0.lo - x1.hi) (x0.hi - x1.lo), ((leI (x0.lo - x1.hi) x0.lo) == (geI x1.hi 0#64)), ((leI (x0.hi - x1.lo) x0.hi) == (geI x1.lo 0#64)))
theorem span_sub_int64_any (x0 : P) (x1 : P)   (w : World) :
  Calls Tryz.prog 131 #[vI x0, vI x1] w fun e w' => e = .returned (.tuple #[vI ((span_sub_int64 x0 x1).1), .bool ((span_sub_int64 x0 x1).2.1), .bool ((span_sub_int64 x0 x1).2.2)]) ∧ Below w.heap.size w w' := by
 simp only [vI]
 go_enter Tryz.func131, Tryz.ntmps131
 have HS : Hid (St w [⟨w.heap.size, [some (.int .i64 (ti (x0.lo))), some (.int .i64 (ti (x0.hi)))], 93⟩, ⟨w.heap.size + 1, [some (.int .i64 (ti (x1.lo))), some (.int .i64 (ti (x1.hi)))], 93⟩, ⟨w.heap.size + 2, [some (.int .i64 0), some (.int .i64 0)], 93⟩] _) := hid ((((st_nil w).alloc (k := w.heap.size) rfl [.int .i64 (ti (x0.lo)), .int .i64 (ti (x0.hi))] 93).alloc (k := w.heap.size + 1) (by simp) [.int .i64 (ti (x1.lo)), .int .i64 (ti (x1.hi))] 93).alloc (k := w.heap.size + 2) (by simp) [.int .i64 0, .int .i64 0] 93)
 go_upto_region 1 with fail
 refine lnb HS.out rfl ?_
 refine lv 0 (.pointer (some ⟨w.heap.size, 0, none⟩)) rfl rfl (by intro x hx; go_simp; all_goals exact rfl) ?_
 simp only [sA, sB]
 refine lv 1 (.int .i64 (ti (x0.lo))) rfl rfl (by intro x hx; have f0 := hx.load 0 0 rfl rfl; go_simp; all_goals exact rfl) ?_
 simp only [sA, sB]
 refine lv 2 (.pointer (some ⟨w.heap.size + 1, 1, none⟩)) rfl rfl (by intro x hx; go_simp; all_goals exact rfl) ?_
 simp only [sA, sB]
 refine lv 3 (.int .i64 (ti (x1.hi))) rfl rfl (by intro x hx; have f0 := hx.load 1 1 rfl rfl; go_simp; all_goals exact rfl) ?_
 simp only [sA, sB]
 refine lc 4 138 #[.int .i64 (ti (x0.lo)), .int .i64 (ti (x1.hi))] (.tuple #[.int .i64 (ti (x0.lo - x1.hi)), .bool (((leI (x0.lo - x1.hi) x0.lo) == (geI x1.hi 0#64)))]) rfl rfl (by intro x hx; exact span_difference_int64_any x0.lo x1.hi _) ?_
 simp only [sA, sB]
 refine lm 5 12 rfl rfl rfl rfl ?_
 simp only [sA, sB]
 refine lv 6 (.int .i64 (ti (x0.lo - x1.hi))) rfl rfl (by intro x hx; go_simp; all_goals exact rfl) ?_
 simp only [sA, sB]
 refine lv 7 (.bool (((leI (x0.lo - x1.hi) x0.lo) == (geI x1.hi 0#64)))) rfl rfl (by intro x hx; go_simp; all_goals exact rfl) ?_
 simp only [sA, sB]
 refine lv 8 (.pointer (some ⟨w.heap.size + 2, 0, none⟩)) rfl rfl (by intro x hx; go_simp; all_goals exact rfl) ?_
 simp only [sA, sB]
 refine ls 9 2 0 [.int .i64 (ti (x0.lo - x1.hi))] rfl rfl rfl (by intro x hx; obtain ⟨_, z0, q0⟩ := hx.at1 2 0 rfl; go_simp; all_goals rfl) ?_
 simp only [Blk.putC, setM, sA, sB]
 refine la 10 14 rfl rfl rfl rfl ?_
 simp only [sA, sB]
 clear HS
 refine ld fun W1 HS => ?_
 go_upto_region 2 with fail
 refine lnb HS.out rfl ?_
 refine lv 0 (.pointer (some ⟨w.heap.size, 1, none⟩)) rfl rfl (by intro x hx; go_simp; all_goals exact rfl) ?_
 simp only [sA, sB]
 refine lv 1 (.int .i64 (ti (x0.hi))) rfl rfl (by intro x hx; have f0 := hx.load 0 1 rfl rfl; go_simp; all_goals exact rfl) ?_
 simp only [sA, sB]
 refine lv 2 (.pointer (some ⟨w.heap.size + 1, 0, none⟩)) rfl rfl (by intro x hx; go_simp; all_goals exact rfl) ?_
 simp only [sA, sB]
 refine lv 3 (.int .i64 (ti (x1.lo))) rfl rfl (by intro x hx; have f0 := hx.load 1 0 rfl rfl; go_simp; all_goals exact rfl) ?_
 simp only [sA, sB]
 refine lc 4 138 #[.int .i64 (ti (x0.hi)), .int .i64 (ti (x1.lo))] (.tuple #[.int .i64 (ti (x0.hi - x1.lo)), .bool (((leI (x0.hi - x1.lo) x0.hi) == (geI x1.lo 0#64)))]) rfl rfl (by intro x hx; exact span_difference_int64_any x0.hi x1.lo _) ?_
 simp only [sA, sB]
 refine lm 5 21 rfl rfl rfl rfl ?_
 simp only [sA, sB]
 refine lv 6 (.int .i64 (ti (x0.hi - x1.lo))) rfl rfl (by intro x hx; go_simp; all_goals exact rfl) ?_
 simp only [sA, sB]
 refine lv 7 (.bool (((leI (x0.hi - x1.lo) x0.hi) == (geI x1.lo 0#64)))) rfl rfl (by intro x hx; go_simp; all_goals exact rfl) ?_
 simp only [sA, sB]
 refine lv 8 (.pointer (some ⟨w.heap.size + 2, 1, none⟩)) rfl rfl (by intro x hx; go_simp; all_goals exact rfl) ?_
 simp only [sA, sB]
 refine ls 9 2 1 [.int .i64 (ti (x0.hi - x1.lo))] rfl rfl rfl (by intro x hx; obtain ⟨_, z0, q0⟩ := hx.at1 2 1 rfl; go_simp; all_goals rfl) ?_
 simp only [Blk.putC, setM, sA, sB]
 refine la 10 23 rfl rfl rfl rfl ?_
 simp only [sA, sB]
 clear HS
 refine ld fun W2 HS => ?_
 go_upto_region 3 with fail
 refine lnb HS.out rfl ?_
 refine lv 0 (vI (P.mk (x0.lo - x1.hi) (x0.hi - x1.lo))) rfl rfl (by intro x hx; obtain ⟨f0, f1⟩ := hx.two 2 0 rfl rfl; go_simp; all_goals exact rfl) ?_
 simp only [sA, sB, vI]
 refine lm 1 5 rfl rfl rfl rfl ?_
 simp only [sA, sB]
 refine lm 2 6 rfl rfl rfl rfl ?_
 simp only [sA, sB]
 refine ls 3 2 0 (cI (P.mk (x0.lo - x1.hi) (x0.hi - x1.lo))) rfl rfl rfl (by intro x hx; obtain ⟨⟨_, z0, q0⟩, ⟨_, z1, q1⟩⟩ := hx.at2 2 0 rfl; go_simp; all_goals rfl) ?_
 simp only [Blk.putC, setM, cI, sA, sB]
 refine la 4 26 rfl rfl rfl rfl ?_
 simp only [sA, sB]
 refine la 5 27 rfl rfl rfl rfl ?_
 simp only [sA, sB]
 clear HS
 refine ld fun W3 HS => ?_
 go_wp2
 obtain ⟨r0, r1⟩ := HS.out.two 2 0 rfl rfl
 have HF : span_sub_int64 x0 x1 = (P.mk (x0.lo - x1.hi) (x0.hi - x1.lo), ((leI (x0.lo - x1.hi) x0.lo) == (geI x1.hi 0#64)), ((leI (x0.hi - x1.lo) x0.hi) == (geI x1.lo 0#64))) := by
  unfold span_sub_int64
  rfl
 exact bodyPost_ret (v := .tuple #[vI (P.mk (x0.lo - x1.hi) (x0.hi - x1.lo)), .bool (((leI (x0.lo - x1.hi) x0.lo) == (geI x1.hi 0#64))), .bool (((leI (x0.hi - x1.lo) x0.hi) == (geI x1.lo 0#64)))]) (by simp [results, Tryz.results131, go_sem, r0, r1, vI]) rfl ⟨(by first | (rw [HF]; done) | (rw [HF]; rfl)), HS.out.below⟩
def span_Ssub (x0 : P) (x1 : P)  : P :=
 span_both ((span_sub_int64 x0 x1).1) ((span_sub_int64 x0 x1).2.1) ((span_sub_int64 x0 x1).2.2)
theorem span_Ssub_any (x0 : P) (x1 : P)   (w : World) :
  Calls Tryz.prog 114 #[vI x0, vI x1] w fun e w' => e = .returned (vI (span_Ssub x0 x1)) ∧ Below w.heap.size w w' := by
 simp only [vI]
 go_enter Tryz.func114, Tryz.ntmps114
 have HS : Hid (St w [⟨w.heap.size, [some (.int .i64 (ti (x0.lo))), some (.int .i64 (ti (x0.hi)))], 29⟩, ⟨w.heap.size + 1, [some (.int .i64 (ti (x1.lo))), some (.int .i64 (ti (x1.hi)))], 29⟩, ⟨w.heap.size + 2, [some (.int .i64 0), some (.int .i64 0)], 29⟩] _) := hid ((((st_nil w).alloc (k := w.heap.size) rfl [.int .i64 (ti (x0.lo)), .int .i64 (ti (x0.hi))] 29).alloc (k := w.heap.size + 1) (by simp) [.int .i64 (ti (x1.lo)), .int .i64 (ti (x1.hi))] 29).alloc (k := w.heap.size + 2) (by simp) [.int .i64 0, .int .i64 0] 29)
 go_upto_region 1 with fail
 refine upb 13 (HS.out.drew) rfl ?_
 refine tv 0 (vI x0) rfl rfl (by intro x hx; obtain ⟨f0, f1⟩ := hx.two 0 0 rfl rfl; go_simp; all_goals exact rfl) ?_
 simp only [sA, sB, vI]
 refine tc 1 88 #[vI x0] (vI x0) rfl rfl (by intro x hx; exact span_signed_any x0 _) ?_
 simp only [sA, sB, vI]
 refine tv 2 (vI x1) rfl rfl (by intro x hx; obtain ⟨f0, f1⟩ := hx.two 1 0 rfl rfl; go_simp; all_goals exact rfl) ?_
 simp only [sA, sB, vI]
 refine tc 3 88 #[vI x1] (vI x1) rfl rfl (by intro x hx; exact span_signed_any x1 _) ?_
 simp only [sA, sB, vI]
 refine tc 4 131 #[vI x0, vI x1] (.tuple #[vI ((span_sub_int64 x0 x1).1), .bool ((span_sub_int64 x0 x1).2.1), .bool ((span_sub_int64 x0 x1).2.2)]) rfl rfl (by intro x hx; exact span_sub_int64_any x0 x1 _) ?_
 simp only [sA, sB, vI]
 refine tm 5 13 rfl rfl rfl rfl ?_
 simp only [sA, sB]
 refine tv 6 (vI ((span_sub_int64 x0 x1).1)) rfl rfl (by intro x hx; go_simp; all_goals exact rfl) ?_
 simp only [sA, sB, vI]
 refine tv 7 (.bool ((span_sub_int64 x0 x1).2.1)) rfl rfl (by intro x hx; go_simp; all_goals exact rfl) ?_
 simp only [sA, sB]
 refine tv 8 (.bool ((span_sub_int64 x0 x1).2.2)) rfl rfl (by intro x hx; go_simp; all_goals exact rfl) ?_
 simp only [sA, sB]
 refine take_one (i := 9) (by kernel_rfl) (step_new rfl rfl (by rfl) [.int .i64 0, .int .i64 0] 93 (fun k => .pointer (some ⟨k, 0, none⟩)) [none, none] (lessC_no (lessC_no (trivial))) (by intro x hx; go_simp; all_goals exact rfl) (fun k1 => ?_))
 simp only [sA, sB, sC, sD]
 refine ts 10 3 0 (cI ((span_sub_int64 x0 x1).1)) rfl rfl rfl (by intro x hx; obtain ⟨⟨_, z0, q0⟩, ⟨_, z1, q1⟩⟩ := hx.at2 3 0 rfl; go_simp; all_goals rfl) ?_
 simp only [Blk.putC, setM, cI, sA, sB]
 refine ta 11 15 rfl rfl rfl rfl ?_
 simp only [sA, sB]
 refine ta 12 16 rfl rfl rfl rfl ?_
 simp only [sA, sB]
 clear HS
 refine td fun W1 HS => ?_
 go_upto_region 2 with fail
 refine lnb HS.out rfl ?_
 refine lv 0 (vI ((span_sub_int64 x0 x1).1)) rfl rfl (by intro x hx; obtain ⟨f0, f1⟩ := hx.two 3 0 rfl rfl; go_simp; all_goals exact rfl) ?_
 simp only [sA, sB, vI]
 refine lm 1 6 rfl rfl rfl rfl ?_
 simp only [sA, sB]
 refine lm 2 7 rfl rfl rfl rfl ?_
 simp only [sA, sB]
 refine lc 3 111 #[vI ((span_sub_int64 x0 x1).1), .bool ((span_sub_int64 x0 x1).2.1), .bool ((span_sub_int64 x0 x1).2.2)] (vI (span_both ((span_sub_int64 x0 x1).1) ((span_sub_int64 x0 x1).2.1) ((span_sub_int64 x0 x1).2.2))) rfl rfl (by intro x hx; exact span_both_any ((span_sub_int64 x0 x1).1) ((span_sub_int64 x0 x1).2.1) ((span_sub_int64 x0 x1).2.2) _) ?_
 simp only [sA, sB, vI]
 refine ls 4 2 0 (cI (span_both ((span_sub_int64 x0 x1).1) ((span_sub_int64 x0 x1).2.1) ((span_sub_int64 x0 x1).2.2))) rfl rfl rfl (by intro x hx; obtain ⟨⟨_, z0, q0⟩, ⟨_, z1, q1⟩⟩ := hx.at2 2 0 rfl; go_simp; all_goals rfl) ?_
 simp only [Blk.putC, setM, cI, sA, sB]
 clear HS
 refine ld fun W2 HS => ?_
 go_wp2
 obtain ⟨r0, r1⟩ := HS.out.two 2 0 rfl rfl
 have HF : span_Ssub x0 x1 = span_both ((span_sub_int64 x0 x1).1) ((span_sub_int64 x0 x1).2.1) ((span_sub_int64 x0 x1).2.2) := by
  unfold span_Ssub
  rfl
 exact bodyPost_ret (v := vI (span_both ((span_sub_int64 x0 x1).1) ((span_sub_int64 x0 x1).2.1) ((span_sub_int64 x0 x1).2.2))) (by simp [results, Tryz.results114, go_sem, r0, r1, vI]) rfl ⟨(by first | (rw [HF]; done) | (rw [HF]; rfl)), HS.out.below⟩
end Go.Proofs.YtmcapfbkedfdkaaGreatDoor.Sp
