/-
  The contracts of span's calls: turns.
-/
import Derived.Deep.DeepCutAuto
import Derived.Test.YtmcapfbkedfdkaaGreatDoorSpB
namespace Go.Proofs.YtmcapfbkedfdkaaGreatDoor.Sp
set_option maxRecDepth 100000
set_option maxHeartbeats 1000000
open Go.RowKit Go.Proofs.YtmcapfbkedfdkaaGreatDoor.Num Go.Proofs.YtmcapfbkedfdkaaGreatDoor.Up
def span_turned_int64_uint64 (x0 : P)  : P × Bool :=
 bif ltI (x0.lo ^^^ x0.hi) 0#64 then ((P.mk 0#64 0#64, false)) else ((x0, true))
theorem span_turned_int64_uint64_any (x0 : P)   (w : World) :
   Calls Tryz.prog 101 #[vU x0] w fun e w' => e = .returned (.tuple #[vI ((span_turned_int64_uint64 x0).1), .bool ((span_turned_int64_uint64 x0).2)]) ∧ Below w.heap.size w w' := by
 simp only [vU, vI]
 go_enter Tryz.func101, Tryz.ntmps101
 have HS : Hid (St w [⟨w.heap.size, [some (.int .u64 (tn (x0.lo))), some (.int .u64 (tn (x0.hi)))], 89⟩, ⟨w.heap.size + 1, [some (.int .i64 0), some (.int .i64 0)], 93⟩] _) := hid (((st_nil w).alloc (k := w.heap.size) rfl [.int .u64 (tn (x0.lo)), .int .u64 (tn (x0.hi))] 89).alloc (k := w.heap.size + 1) (by simp) [.int .i64 0, .int .i64 0] 93)
 go_upto_region 1 with fail
 refine lnb HS.out rfl ?_
 refine lv 0 (.pointer (some ⟨w.heap.size, 0, none⟩)) rfl rfl (by intro x hx; go_simp; all_goals exact rfl) ?_
 simp only [sA, sB]
 refine lv 1 (.int .u64 (tn (x0.lo))) rfl rfl (by intro x hx; have f0 := hx.load 0 0 rfl rfl; go_simp; all_goals exact rfl) ?_
 simp only [sA, sB]
 refine lv 2 (.pointer (some ⟨w.heap.size, 1, none⟩)) rfl rfl (by intro x hx; go_simp; all_goals exact rfl) ?_
 simp only [sA, sB]
 refine lv 3 (.int .u64 (tn (x0.hi))) rfl rfl (by intro x hx; have f0 := hx.load 0 1 rfl rfl; go_simp; all_goals exact rfl) ?_
 simp only [sA, sB]
 refine lv 4 (.int .u64 (tn (x0.lo ^^^ x0.hi))) rfl rfl (by intro x hx; go_simp; (first | done | exact xorUT x0.lo x0.hi | exact congrArg _ (xorUT x0.lo x0.hi) | (rw [xorUT x0.lo x0.hi]; done) | (rw [xorUT x0.lo x0.hi]; rfl))) ?_
 simp only [sA, sB]
 refine lv 5 (.int .i64 (ti (x0.lo ^^^ x0.hi))) rfl rfl (by intro x hx; go_simp; (first | done | exact toI64 (x0.lo ^^^ x0.hi) | exact congrArg _ (toI64 (x0.lo ^^^ x0.hi)) | (rw [toI64 (x0.lo ^^^ x0.hi)]; done) | (rw [toI64 (x0.lo ^^^ x0.hi)]; rfl))) ?_
 simp only [sA, sB]
 refine lv 6 (.bool (ltI (x0.lo ^^^ x0.hi) 0#64)) rfl rfl (by intro x hx; go_simp; (first | done | exact ltIT (x0.lo ^^^ x0.hi) 0#64 | exact congrArg _ (ltIT (x0.lo ^^^ x0.hi) 0#64) | (rw [ltIT (x0.lo ^^^ x0.hi) 0#64]; done) | (rw [ltIT (x0.lo ^^^ x0.hi) 0#64]; rfl))) ?_
 simp only [sA, sB]
 clear HS
 refine ld fun W1 HS => ?_
 cases h1 : (ltI (x0.lo ^^^ x0.hi) 0#64)
 ·replace h1 := hid h1
  go_upto_region 3 with fail
  refine lnb HS.out rfl ?_
  refine lv 0 (.pointer (some ⟨w.heap.size, 0, none⟩)) rfl rfl (by intro x hx; go_simp; all_goals exact rfl) ?_
  simp only [sA, sB]
  refine lv 1 (.int .u64 (tn (x0.lo))) rfl rfl (by intro x hx; have f0 := hx.load 0 0 rfl rfl; go_simp; all_goals exact rfl) ?_
  simp only [sA, sB]
  refine lv 2 (.int .i64 (ti (x0.lo))) rfl rfl (by intro x hx; go_simp; (first | done | exact toI64 x0.lo | exact congrArg _ (toI64 x0.lo) | (rw [toI64 x0.lo]; done) | (rw [toI64 x0.lo]; rfl))) ?_
  simp only [sA, sB]
  refine lv 3 (.pointer (some ⟨w.heap.size, 1, none⟩)) rfl rfl (by intro x hx; go_simp; all_goals exact rfl) ?_
  simp only [sA, sB]
  refine lv 4 (.int .u64 (tn (x0.hi))) rfl rfl (by intro x hx; have f0 := hx.load 0 1 rfl rfl; go_simp; all_goals exact rfl) ?_
  simp only [sA, sB]
  refine lv 5 (.int .i64 (ti (x0.hi))) rfl rfl (by intro x hx; go_simp; (first | done | exact toI64 x0.hi | exact congrArg _ (toI64 x0.hi) | (rw [toI64 x0.hi]; done) | (rw [toI64 x0.hi]; rfl))) ?_
  simp only [sA, sB]
  refine lv 6 (vI x0) rfl rfl (by intro x hx; go_simp; all_goals exact rfl) ?_
  simp only [sA, sB, vI]
  refine ls 7 1 0 (cI x0) rfl rfl rfl (by intro x hx; obtain ⟨⟨_, z0, q0⟩, ⟨_, z1, q1⟩⟩ := hx.at2 1 0 rfl; go_simp; all_goals rfl) ?_
  simp only [Blk.putC, setM, cI, sA, sB]
  refine lv 8 (.bool true) rfl rfl (by intro x hx; go_simp; all_goals exact rfl) ?_
  simp only [sA, sB]
  clear HS
  refine ld fun W2 HS => ?_
  go_wp2
  obtain ⟨r0, r1⟩ := HS.out.two 1 0 rfl rfl
  have HF : span_turned_int64_uint64 x0 = (x0, true) := by
    unfold span_turned_int64_uint64
    rw [cond_f h1.out]
  exact bodyPost_ret (v := .tuple #[vI x0, .bool true]) (by simp [results, Tryz.results101, go_sem, r0, r1, vI]) rfl ⟨(by first | (rw [HF]; done) | (rw [HF]; rfl)), HS.out.below⟩
 ·replace h1 := hid h1
  go_upto_region 2 with fail
  refine lnb HS.out rfl ?_
  refine lv 0 (.agg #[.int .i64 0, .int .i64 0]) rfl rfl (by intro x hx; go_simp; all_goals exact rfl) ?_
  simp only [sA, sB]
  refine ls 1 1 0 [.int .i64 0, .int .i64 0] rfl rfl rfl (by intro x hx; obtain ⟨⟨_, z0, q0⟩, ⟨_, z1, q1⟩⟩ := hx.at2 1 0 rfl; go_simp; all_goals rfl) ?_
  simp only [Blk.putC, setM, sA, sB]
  refine lv 2 (.bool false) rfl rfl (by intro x hx; go_simp; all_goals exact rfl) ?_
  simp only [sA, sB]
  clear HS
  refine ld fun W2 HS => ?_
  go_wp2
  obtain ⟨r0, r1⟩ := HS.out.two 1 0 rfl rfl
  have HF : span_turned_int64_uint64 x0 = (P.mk 0#64 0#64, false) := by
    unfold span_turned_int64_uint64
    rw [cond_t h1.out]
  exact bodyPost_ret (v := .tuple #[.agg #[.int .i64 0, .int .i64 0], .bool false]) (by simp [results, Tryz.results101, go_sem, r0, r1]) rfl ⟨(by first | (rw [HF]; done) | (rw [HF]; rfl)), HS.out.below⟩
def span_ToSigned (x0 : P)  : P :=
 bif (span_turned_int64_uint64 x0).2 then ((span_turned_int64_uint64 x0).1) else (P.mk 9223372036854775808#64 9223372036854775807#64)
theorem span_ToSigned_any (x0 : P)   (w : World) :
   Calls Tryz.prog 52 #[vU x0] w fun e w' => e = .returned (vI (span_ToSigned x0)) ∧ Below w.heap.size w w' := by
 simp only [vU, vI]
 go_enter Tryz.func52, Tryz.ntmps52
 have HS : Hid (St w [⟨w.heap.size, [some (.int .u64 (tn (x0.lo))), some (.int .u64 (tn (x0.hi)))], 27⟩, ⟨w.heap.size + 1, [some (.int .i64 0), some (.int .i64 0)], 29⟩] _) := hid (((st_nil w).alloc (k := w.heap.size) rfl [.int .u64 (tn (x0.lo)), .int .u64 (tn (x0.hi))] 27).alloc (k := w.heap.size + 1) (by simp) [.int .i64 0, .int .i64 0] 29)
 go_upto_region 1 with fail
 refine lnb HS.out rfl ?_
 refine lv 0 (vU x0) rfl rfl (by intro x hx; obtain ⟨f0, f1⟩ := hx.two 0 0 rfl rfl; go_simp; all_goals exact rfl) ?_
 simp only [sA, sB, vU]
 refine lc 1 86 #[vU x0] (vU x0) rfl rfl (by intro x hx; exact span_unsigned_any x0 _) ?_
 simp only [sA, sB, vU]
 refine lc 2 101 #[vU x0] (.tuple #[vI ((span_turned_int64_uint64 x0).1), .bool ((span_turned_int64_uint64 x0).2)]) rfl rfl (by intro x hx; exact span_turned_int64_uint64_any x0 _) ?_
 simp only [sA, sB, vI]
 refine lm 3 8 rfl rfl rfl rfl ?_
 simp only [sA, sB]
 refine lv 4 (vI ((span_turned_int64_uint64 x0).1)) rfl rfl (by intro x hx; go_simp; all_goals exact rfl) ?_
 simp only [sA, sB, vI]
 refine lv 5 (.bool ((span_turned_int64_uint64 x0).2)) rfl rfl (by intro x hx; go_simp; all_goals exact rfl) ?_
 simp only [sA, sB]
 refine lin_new (i := 6) rfl rfl (by rfl) [.int .i64 0, .int .i64 0] 93 (fun k => .pointer (some ⟨k, 0, none⟩)) [some (.int .i64 0), some (.int .i64 0)] (lessC_refl _) (by intro x hx; go_simp; all_goals exact rfl) (fun k1 => ?_)
 simp only [sA, sB, sC, sD]
 refine ls 7 2 0 (cI ((span_turned_int64_uint64 x0).1)) rfl rfl rfl (by intro x hx; obtain ⟨⟨_, z0, q0⟩, ⟨_, z1, q1⟩⟩ := hx.at2 2 0 rfl; go_simp; all_goals rfl) ?_
 simp only [Blk.putC, setM, cI, sA, sB]
 refine la 8 10 rfl rfl rfl rfl ?_
 simp only [sA, sB]
 clear HS
 refine ld fun W1 HS => ?_
 go_upto_region 2 with fail
 refine lnb HS.out rfl ?_
 refine lm 0 4 rfl rfl rfl rfl ?_
 simp only [sA, sB]
 clear HS
 refine ld fun W2 HS => ?_
 cases h1 : ((span_turned_int64_uint64 x0).2)
 ·replace h1 := hid h1
  go_upto_region 4 with fail
  refine lnb HS.out rfl ?_
  refine lc 0 29 #[] (vI (P.mk 9223372036854775808#64 9223372036854775807#64)) rfl rfl (by intro x hx; exact span_Sall_any _) ?_
  simp only [sA, sB, vI]
  refine ls 1 1 0 (cI (P.mk 9223372036854775808#64 9223372036854775807#64)) rfl rfl rfl (by intro x hx; obtain ⟨⟨_, z0, q0⟩, ⟨_, z1, q1⟩⟩ := hx.at2 1 0 rfl; go_simp; all_goals rfl) ?_
  simp only [Blk.putC, setM, cI, sA, sB]
  clear HS
  refine ld fun W3 HS => ?_
  go_wp2
  obtain ⟨r0, r1⟩ := HS.out.two 1 0 rfl rfl
  have HF : span_ToSigned x0 = P.mk 9223372036854775808#64 9223372036854775807#64 := by
    unfold span_ToSigned
    rw [cond_f h1.out]
  exact bodyPost_ret (v := vI (P.mk 9223372036854775808#64 9223372036854775807#64)) (by simp [results, Tryz.results52, go_sem, r0, r1, vI]) rfl ⟨(by first | (rw [HF]; done) | (rw [HF]; rfl)), HS.out.below⟩
 ·replace h1 := hid h1
  go_upto_region 3 with fail
  refine lnb HS.out rfl ?_
  refine lv 0 (vI ((span_turned_int64_uint64 x0).1)) rfl rfl (by intro x hx; obtain ⟨f0, f1⟩ := hx.two 2 0 rfl rfl; go_simp; all_goals exact rfl) ?_
  simp only [sA, sB, vI]
  refine lc 1 58 #[vI ((span_turned_int64_uint64 x0).1)] (vI ((span_turned_int64_uint64 x0).1)) rfl rfl (by intro x hx; exact span_toSigned_any ((span_turned_int64_uint64 x0).1) _) ?_
  simp only [sA, sB, vI]
  refine ls 2 1 0 (cI ((span_turned_int64_uint64 x0).1)) rfl rfl rfl (by intro x hx; obtain ⟨⟨_, z0, q0⟩, ⟨_, z1, q1⟩⟩ := hx.at2 1 0 rfl; go_simp; all_goals rfl) ?_
  simp only [Blk.putC, setM, cI, sA, sB]
  clear HS
  refine ld fun W3 HS => ?_
  go_wp2
  obtain ⟨r0, r1⟩ := HS.out.two 1 0 rfl rfl
  have HF : span_ToSigned x0 = (span_turned_int64_uint64 x0).1 := by
    unfold span_ToSigned
    rw [cond_t h1.out]
  exact bodyPost_ret (v := vI ((span_turned_int64_uint64 x0).1)) (by simp [results, Tryz.results52, go_sem, r0, r1, vI]) rfl ⟨(by first | (rw [HF]; done) | (rw [HF]; rfl)), HS.out.below⟩
def span_turned_uint64_int64 (x0 : P)  : P × Bool :=
 bif ltI (x0.lo ^^^ x0.hi) 0#64 then ((P.mk 0#64 0#64, false)) else ((x0, true))
theorem span_turned_uint64_int64_any (x0 : P)   (w : World) :
   Calls Tryz.prog 100 #[vI x0] w fun e w' => e = .returned (.tuple #[vU ((span_turned_uint64_int64 x0).1), .bool ((span_turned_uint64_int64 x0).2)]) ∧ Below w.heap.size w w' := by
 simp only [vU, vI]
 go_enter Tryz.func100, Tryz.ntmps100
 have HS : Hid (St w [⟨w.heap.size, [some (.int .i64 (ti (x0.lo))), some (.int .i64 (ti (x0.hi)))], 93⟩, ⟨w.heap.size + 1, [some (.int .u64 0), some (.int .u64 0)], 89⟩] _) := hid (((st_nil w).alloc (k := w.heap.size) rfl [.int .i64 (ti (x0.lo)), .int .i64 (ti (x0.hi))] 93).alloc (k := w.heap.size + 1) (by simp) [.int .u64 0, .int .u64 0] 89)
 go_upto_region 1 with fail
 refine lnb HS.out rfl ?_
 refine lv 0 (.pointer (some ⟨w.heap.size, 0, none⟩)) rfl rfl (by intro x hx; go_simp; all_goals exact rfl) ?_
 simp only [sA, sB]
 refine lv 1 (.int .i64 (ti (x0.lo))) rfl rfl (by intro x hx; have f0 := hx.load 0 0 rfl rfl; go_simp; all_goals exact rfl) ?_
 simp only [sA, sB]
 refine lv 2 (.pointer (some ⟨w.heap.size, 1, none⟩)) rfl rfl (by intro x hx; go_simp; all_goals exact rfl) ?_
 simp only [sA, sB]
 refine lv 3 (.int .i64 (ti (x0.hi))) rfl rfl (by intro x hx; have f0 := hx.load 0 1 rfl rfl; go_simp; all_goals exact rfl) ?_
 simp only [sA, sB]
 refine lv 4 (.int .i64 (ti (x0.lo ^^^ x0.hi))) rfl rfl (by intro x hx; go_simp; (first | done | exact xorIT x0.lo x0.hi | exact congrArg _ (xorIT x0.lo x0.hi) | (rw [xorIT x0.lo x0.hi]; done) | (rw [xorIT x0.lo x0.hi]; rfl))) ?_
 simp only [sA, sB]
 refine lv 5 (.bool (ltI (x0.lo ^^^ x0.hi) 0#64)) rfl rfl (by intro x hx; go_simp; (first | done | exact ltIT (x0.lo ^^^ x0.hi) 0#64 | exact congrArg _ (ltIT (x0.lo ^^^ x0.hi) 0#64) | (rw [ltIT (x0.lo ^^^ x0.hi) 0#64]; done) | (rw [ltIT (x0.lo ^^^ x0.hi) 0#64]; rfl))) ?_
 simp only [sA, sB]
 clear HS
 refine ld fun W1 HS => ?_
 cases h1 : (ltI (x0.lo ^^^ x0.hi) 0#64)
 ·replace h1 := hid h1
  go_upto_region 3 with fail
  refine lnb HS.out rfl ?_
  refine lv 0 (.pointer (some ⟨w.heap.size, 0, none⟩)) rfl rfl (by intro x hx; go_simp; all_goals exact rfl) ?_
  simp only [sA, sB]
  refine lv 1 (.int .i64 (ti (x0.lo))) rfl rfl (by intro x hx; have f0 := hx.load 0 0 rfl rfl; go_simp; all_goals exact rfl) ?_
  simp only [sA, sB]
  refine lv 2 (.int .u64 (tn (x0.lo))) rfl rfl (by intro x hx; go_simp; (first | done | exact backI x0.lo | exact congrArg _ (backI x0.lo) | (rw [backI x0.lo]; done) | (rw [backI x0.lo]; rfl))) ?_
  simp only [sA, sB]
  refine lv 3 (.pointer (some ⟨w.heap.size, 1, none⟩)) rfl rfl (by intro x hx; go_simp; all_goals exact rfl) ?_
  simp only [sA, sB]
  refine lv 4 (.int .i64 (ti (x0.hi))) rfl rfl (by intro x hx; have f0 := hx.load 0 1 rfl rfl; go_simp; all_goals exact rfl) ?_
  simp only [sA, sB]
  refine lv 5 (.int .u64 (tn (x0.hi))) rfl rfl (by intro x hx; go_simp; (first | done | exact backI x0.hi | exact congrArg _ (backI x0.hi) | (rw [backI x0.hi]; done) | (rw [backI x0.hi]; rfl))) ?_
  simp only [sA, sB]
  refine lv 6 (vU x0) rfl rfl (by intro x hx; go_simp; all_goals exact rfl) ?_
  simp only [sA, sB, vU]
  refine ls 7 1 0 (cU x0) rfl rfl rfl (by intro x hx; obtain ⟨⟨_, z0, q0⟩, ⟨_, z1, q1⟩⟩ := hx.at2 1 0 rfl; go_simp; all_goals rfl) ?_
  simp only [Blk.putC, setM, cU, sA, sB]
  refine lv 8 (.bool true) rfl rfl (by intro x hx; go_simp; all_goals exact rfl) ?_
  simp only [sA, sB]
  clear HS
  refine ld fun W2 HS => ?_
  go_wp2
  obtain ⟨r0, r1⟩ := HS.out.two 1 0 rfl rfl
  have HF : span_turned_uint64_int64 x0 = (x0, true) := by
    unfold span_turned_uint64_int64
    rw [cond_f h1.out]
  exact bodyPost_ret (v := .tuple #[vU x0, .bool true]) (by simp [results, Tryz.results100, go_sem, r0, r1, vU]) rfl ⟨(by first | (rw [HF]; done) | (rw [HF]; rfl)), HS.out.below⟩
 ·replace h1 := hid h1
  go_upto_region 2 with fail
  refine lnb HS.out rfl ?_
  refine lv 0 (.agg #[.int .u64 0, .int .u64 0]) rfl rfl (by intro x hx; go_simp; all_goals exact rfl) ?_
  simp only [sA, sB]
  refine ls 1 1 0 [.int .u64 0, .int .u64 0] rfl rfl rfl (by intro x hx; obtain ⟨⟨_, z0, q0⟩, ⟨_, z1, q1⟩⟩ := hx.at2 1 0 rfl; go_simp; all_goals rfl) ?_
  simp only [Blk.putC, setM, sA, sB]
  refine lv 2 (.bool false) rfl rfl (by intro x hx; go_simp; all_goals exact rfl) ?_
  simp only [sA, sB]
  clear HS
  refine ld fun W2 HS => ?_
  go_wp2
  obtain ⟨r0, r1⟩ := HS.out.two 1 0 rfl rfl
  have HF : span_turned_uint64_int64 x0 = (P.mk 0#64 0#64, false) := by
    unfold span_turned_uint64_int64
    rw [cond_t h1.out]
  exact bodyPost_ret (v := .tuple #[.agg #[.int .u64 0, .int .u64 0], .bool false]) (by simp [results, Tryz.results100, go_sem, r0, r1]) rfl ⟨(by first | (rw [HF]; done) | (rw [HF]; rfl)), HS.out.below⟩
def span_ToSpan (x0 : P)  : P :=
 bif (span_turned_uint64_int64 x0).2 then ((span_turned_uint64_int64 x0).1) else (P.mk 0#64 18446744073709551615#64)
theorem span_ToSpan_any (x0 : P)   (w : World) :
   Calls Tryz.prog 50 #[vI x0] w fun e w' => e = .returned (vU (span_ToSpan x0)) ∧ Below w.heap.size w w' := by
 simp only [vU, vI]
 go_enter Tryz.func50, Tryz.ntmps50
 have HS : Hid (St w [⟨w.heap.size, [some (.int .i64 (ti (x0.lo))), some (.int .i64 (ti (x0.hi)))], 29⟩, ⟨w.heap.size + 1, [some (.int .u64 0), some (.int .u64 0)], 27⟩] _) := hid (((st_nil w).alloc (k := w.heap.size) rfl [.int .i64 (ti (x0.lo)), .int .i64 (ti (x0.hi))] 29).alloc (k := w.heap.size + 1) (by simp) [.int .u64 0, .int .u64 0] 27)
 go_upto_region 1 with fail
 refine lnb HS.out rfl ?_
 refine lv 0 (vI x0) rfl rfl (by intro x hx; obtain ⟨f0, f1⟩ := hx.two 0 0 rfl rfl; go_simp; all_goals exact rfl) ?_
 simp only [sA, sB, vI]
 refine lc 1 88 #[vI x0] (vI x0) rfl rfl (by intro x hx; exact span_signed_any x0 _) ?_
 simp only [sA, sB, vI]
 refine lc 2 100 #[vI x0] (.tuple #[vU ((span_turned_uint64_int64 x0).1), .bool ((span_turned_uint64_int64 x0).2)]) rfl rfl (by intro x hx; exact span_turned_uint64_int64_any x0 _) ?_
 simp only [sA, sB, vU]
 refine lm 3 8 rfl rfl rfl rfl ?_
 simp only [sA, sB]
 refine lv 4 (vU ((span_turned_uint64_int64 x0).1)) rfl rfl (by intro x hx; go_simp; all_goals exact rfl) ?_
 simp only [sA, sB, vU]
 refine lv 5 (.bool ((span_turned_uint64_int64 x0).2)) rfl rfl (by intro x hx; go_simp; all_goals exact rfl) ?_
 simp only [sA, sB]
 refine lin_new (i := 6) rfl rfl (by rfl) [.int .u64 0, .int .u64 0] 89 (fun k => .pointer (some ⟨k, 0, none⟩)) [some (.int .u64 0), some (.int .u64 0)] (lessC_refl _) (by intro x hx; go_simp; all_goals exact rfl) (fun k1 => ?_)
 simp only [sA, sB, sC, sD]
 refine ls 7 2 0 (cU ((span_turned_uint64_int64 x0).1)) rfl rfl rfl (by intro x hx; obtain ⟨⟨_, z0, q0⟩, ⟨_, z1, q1⟩⟩ := hx.at2 2 0 rfl; go_simp; all_goals rfl) ?_
 simp only [Blk.putC, setM, cU, sA, sB]
 refine la 8 10 rfl rfl rfl rfl ?_
 simp only [sA, sB]
 clear HS
 refine ld fun W1 HS => ?_
 go_upto_region 2 with fail
 refine lnb HS.out rfl ?_
 refine lm 0 4 rfl rfl rfl rfl ?_
 simp only [sA, sB]
 clear HS
 refine ld fun W2 HS => ?_
 cases h1 : ((span_turned_uint64_int64 x0).2)
 ·replace h1 := hid h1
  go_upto_region 4 with fail
  refine lnb HS.out rfl ?_
  refine lc 0 28 #[] (vU (P.mk 0#64 18446744073709551615#64)) rfl rfl (by intro x hx; exact span_All_any _) ?_
  simp only [sA, sB, vU]
  refine ls 1 1 0 (cU (P.mk 0#64 18446744073709551615#64)) rfl rfl rfl (by intro x hx; obtain ⟨⟨_, z0, q0⟩, ⟨_, z1, q1⟩⟩ := hx.at2 1 0 rfl; go_simp; all_goals rfl) ?_
  simp only [Blk.putC, setM, cU, sA, sB]
  clear HS
  refine ld fun W3 HS => ?_
  go_wp2
  obtain ⟨r0, r1⟩ := HS.out.two 1 0 rfl rfl
  have HF : span_ToSpan x0 = P.mk 0#64 18446744073709551615#64 := by
    unfold span_ToSpan
    rw [cond_f h1.out]
  exact bodyPost_ret (v := vU (P.mk 0#64 18446744073709551615#64)) (by simp [results, Tryz.results50, go_sem, r0, r1, vU]) rfl ⟨(by first | (rw [HF]; done) | (rw [HF]; rfl)), HS.out.below⟩
 ·replace h1 := hid h1
  go_upto_region 3 with fail
  refine lnb HS.out rfl ?_
  refine lv 0 (vU ((span_turned_uint64_int64 x0).1)) rfl rfl (by intro x hx; obtain ⟨f0, f1⟩ := hx.two 2 0 rfl rfl; go_simp; all_goals exact rfl) ?_
  simp only [sA, sB, vU]
  refine lc 1 56 #[vU ((span_turned_uint64_int64 x0).1)] (vU ((span_turned_uint64_int64 x0).1)) rfl rfl (by intro x hx; exact span_toUnsigned_any ((span_turned_uint64_int64 x0).1) _) ?_
  simp only [sA, sB, vU]
  refine ls 2 1 0 (cU ((span_turned_uint64_int64 x0).1)) rfl rfl rfl (by intro x hx; obtain ⟨⟨_, z0, q0⟩, ⟨_, z1, q1⟩⟩ := hx.at2 1 0 rfl; go_simp; all_goals rfl) ?_
  simp only [Blk.putC, setM, cU, sA, sB]
  clear HS
  refine ld fun W3 HS => ?_
  go_wp2
  obtain ⟨r0, r1⟩ := HS.out.two 1 0 rfl rfl
  have HF : span_ToSpan x0 = (span_turned_uint64_int64 x0).1 := by
    unfold span_ToSpan
    rw [cond_t h1.out]
  exact bodyPost_ret (v := vU ((span_turned_uint64_int64 x0).1)) (by simp [results, Tryz.results50, go_sem, r0, r1, vU]) rfl ⟨(by first | (rw [HF]; done) | (rw [HF]; rfl)), HS.out.below⟩
theorem span_Bounds_any (x0 : P)   (w : World) :
  Calls Tryz.prog 45 #[vU x0] w fun e w' => e = .returned (vU (P.mk x0.lo (x0.lo ||| x0.hi))) ∧ Below w.heap.size w w' := by
 simp only [vU]
 go_enter Tryz.func45, Tryz.ntmps45
 have HS : Hid (St w [⟨w.heap.size, [some (.int .u64 (tn (x0.lo))), some (.int .u64 (tn (x0.hi)))], 25⟩, ⟨w.heap.size + 1, [some (.int .u64 0), some (.int .u64 0)], 27⟩] _) := hid (((st_nil w).alloc (k := w.heap.size) rfl [.int .u64 (tn (x0.lo)), .int .u64 (tn (x0.hi))] 25).alloc (k := w.heap.size + 1) (by simp) [.int .u64 0, .int .u64 0] 27)
 go_upto_region 1 with fail
 refine lnb HS.out rfl ?_
 refine lv 0 (.pointer (some ⟨w.heap.size, 0, none⟩)) rfl rfl (by intro x hx; go_simp; all_goals exact rfl) ?_
 simp only [sA, sB]
 refine lv 1 (.int .u64 (tn (x0.lo))) rfl rfl (by intro x hx; have f0 := hx.load 0 0 rfl rfl; go_simp; all_goals exact rfl) ?_
 simp only [sA, sB]
 refine lv 2 (.pointer (some ⟨w.heap.size, 0, none⟩)) rfl rfl (by intro x hx; go_simp; all_goals exact rfl) ?_
 simp only [sA, sB]
 refine lv 3 (.int .u64 (tn (x0.lo))) rfl rfl (by intro x hx; have f0 := hx.load 0 0 rfl rfl; go_simp; all_goals exact rfl) ?_
 simp only [sA, sB]
 refine lv 4 (.pointer (some ⟨w.heap.size, 1, none⟩)) rfl rfl (by intro x hx; go_simp; all_goals exact rfl) ?_
 simp only [sA, sB]
 refine lv 5 (.int .u64 (tn (x0.hi))) rfl rfl (by intro x hx; have f0 := hx.load 0 1 rfl rfl; go_simp; all_goals exact rfl) ?_
 simp only [sA, sB]
 refine lv 6 (.int .u64 (tn (x0.lo ||| x0.hi))) rfl rfl (by intro x hx; go_simp; (first | done | exact orUT x0.lo x0.hi | exact congrArg _ (orUT x0.lo x0.hi) | (rw [orUT x0.lo x0.hi]; done) | (rw [orUT x0.lo x0.hi]; rfl))) ?_
 simp only [sA, sB]
 refine lv 7 (vU (P.mk x0.lo (x0.lo ||| x0.hi))) rfl rfl (by intro x hx; go_simp; all_goals exact rfl) ?_
 simp only [sA, sB, vU]
 refine ls 8 1 0 (cU (P.mk x0.lo (x0.lo ||| x0.hi))) rfl rfl rfl (by intro x hx; obtain ⟨⟨_, z0, q0⟩, ⟨_, z1, q1⟩⟩ := hx.at2 1 0 rfl; go_simp; all_goals rfl) ?_
 simp only [Blk.putC, setM, cU, sA, sB]
 clear HS
 refine ld fun W1 HS => ?_
 go_wp2
 obtain ⟨r0, r1⟩ := HS.out.two 1 0 rfl rfl
 exact bodyPost_ret (v := vU (P.mk x0.lo (x0.lo ||| x0.hi))) (by simp [results, Tryz.results45, go_sem, r0, r1, vU]) rfl ⟨rfl, HS.out.below⟩
def span_Sbounds (x0 : P)  : P :=
 P.mk (x0.lo ||| (x0.hi &&& 9223372036854775808#64)) (x0.lo ||| (x0.hi &&& ~~~9223372036854775808#64))
theorem span_Sbounds_any (x0 : P)   (w : World) :
  Calls Tryz.prog 48 #[vU x0] w fun e w' => e = .returned (vI (span_Sbounds x0)) ∧ Below w.heap.size w w' := by
 simp only [vU, vI]
 go_enter Tryz.func48, Tryz.ntmps48
 have HS : Hid (St w [⟨w.heap.size, [some (.int .u64 (tn (x0.lo))), some (.int .u64 (tn (x0.hi)))], 25⟩, ⟨w.heap.size + 1, [some (.int .i64 0), some (.int .i64 0)], 29⟩] _) := hid (((st_nil w).alloc (k := w.heap.size) rfl [.int .u64 (tn (x0.lo)), .int .u64 (tn (x0.hi))] 25).alloc (k := w.heap.size + 1) (by simp) [.int .i64 0, .int .i64 0] 29)
 go_upto_region 1 with fail
 refine lnb HS.out rfl ?_
 refine lv 0 (.pointer (some ⟨w.heap.size, 0, none⟩)) rfl rfl (by intro x hx; go_simp; all_goals exact rfl) ?_
 simp only [sA, sB]
 refine lv 1 (.int .u64 (tn (x0.lo))) rfl rfl (by intro x hx; have f0 := hx.load 0 0 rfl rfl; go_simp; all_goals exact rfl) ?_
 simp only [sA, sB]
 refine lv 2 (.pointer (some ⟨w.heap.size, 1, none⟩)) rfl rfl (by intro x hx; go_simp; all_goals exact rfl) ?_
 simp only [sA, sB]
 refine lv 3 (.int .u64 (tn (x0.hi))) rfl rfl (by intro x hx; have f0 := hx.load 0 1 rfl rfl; go_simp; all_goals exact rfl) ?_
 simp only [sA, sB]
 refine lv 4 (.int .u64 (tn (x0.hi &&& 9223372036854775808#64))) rfl rfl (by intro x hx; go_simp; (first | done | exact andUT x0.hi 9223372036854775808#64 | exact congrArg _ (andUT x0.hi 9223372036854775808#64) | (rw [andUT x0.hi 9223372036854775808#64]; done) | (rw [andUT x0.hi 9223372036854775808#64]; rfl))) ?_
 simp only [sA, sB]
 refine lv 5 (.int .u64 (tn (x0.lo ||| (x0.hi &&& 9223372036854775808#64)))) rfl rfl (by intro x hx; go_simp; (first | done | exact orUT x0.lo (x0.hi &&& 9223372036854775808#64) | exact congrArg _ (orUT x0.lo (x0.hi &&& 9223372036854775808#64)) | (rw [orUT x0.lo (x0.hi &&& 9223372036854775808#64)]; done) | (rw [orUT x0.lo (x0.hi &&& 9223372036854775808#64)]; rfl))) ?_
 simp only [sA, sB]
 refine lv 6 (.int .i64 (ti (x0.lo ||| (x0.hi &&& 9223372036854775808#64)))) rfl rfl (by intro x hx; go_simp; (first | done | exact toI64 (x0.lo ||| (x0.hi &&& 9223372036854775808#64)) | exact congrArg _ (toI64 (x0.lo ||| (x0.hi &&& 9223372036854775808#64))) | (rw [toI64 (x0.lo ||| (x0.hi &&& 9223372036854775808#64))]; done) | (rw [toI64 (x0.lo ||| (x0.hi &&& 9223372036854775808#64))]; rfl))) ?_
 simp only [sA, sB]
 refine lv 7 (.pointer (some ⟨w.heap.size, 0, none⟩)) rfl rfl (by intro x hx; go_simp; all_goals exact rfl) ?_
 simp only [sA, sB]
 refine lv 8 (.int .u64 (tn (x0.lo))) rfl rfl (by intro x hx; have f0 := hx.load 0 0 rfl rfl; go_simp; all_goals exact rfl) ?_
 simp only [sA, sB]
 refine lv 9 (.pointer (some ⟨w.heap.size, 1, none⟩)) rfl rfl (by intro x hx; go_simp; all_goals exact rfl) ?_
 simp only [sA, sB]
 refine lv 10 (.int .u64 (tn (x0.hi))) rfl rfl (by intro x hx; have f0 := hx.load 0 1 rfl rfl; go_simp; all_goals exact rfl) ?_
 simp only [sA, sB]
 refine lv 11 (.int .u64 (tn (x0.hi &&& ~~~9223372036854775808#64))) rfl rfl (by intro x hx; go_simp; (first | done | exact andNotUT x0.hi 9223372036854775808#64 | exact congrArg _ (andNotUT x0.hi 9223372036854775808#64) | (rw [andNotUT x0.hi 9223372036854775808#64]; done) | (rw [andNotUT x0.hi 9223372036854775808#64]; rfl))) ?_
 simp only [sA, sB]
 refine lv 12 (.int .u64 (tn (x0.lo ||| (x0.hi &&& ~~~9223372036854775808#64)))) rfl rfl (by intro x hx; go_simp; (first | done | exact orUT x0.lo (x0.hi &&& ~~~9223372036854775808#64) | exact congrArg _ (orUT x0.lo (x0.hi &&& ~~~9223372036854775808#64)) | (rw [orUT x0.lo (x0.hi &&& ~~~9223372036854775808#64)]; done) | (rw [orUT x0.lo (x0.hi &&& ~~~9223372036854775808#64)]; rfl))) ?_
 simp only [sA, sB]
 refine lv 13 (.int .i64 (ti (x0.lo ||| (x0.hi &&& ~~~9223372036854775808#64)))) rfl rfl (by intro x hx; go_simp; (first | done | exact toI64 (x0.lo ||| (x0.hi &&& ~~~9223372036854775808#64)) | exact congrArg _ (toI64 (x0.lo ||| (x0.hi &&& ~~~9223372036854775808#64))) | (rw [toI64 (x0.lo ||| (x0.hi &&& ~~~9223372036854775808#64))]; done) | (rw [toI64 (x0.lo ||| (x0.hi &&& ~~~9223372036854775808#64))]; rfl))) ?_
 simp only [sA, sB]
 refine lv 14 (vI (P.mk (x0.lo ||| (x0.hi &&& 9223372036854775808#64)) (x0.lo ||| (x0.hi &&& ~~~9223372036854775808#64)))) rfl rfl (by intro x hx; go_simp; all_goals exact rfl) ?_
 simp only [sA, sB, vI]
 refine ls 15 1 0 (cI (P.mk (x0.lo ||| (x0.hi &&& 9223372036854775808#64)) (x0.lo ||| (x0.hi &&& ~~~9223372036854775808#64)))) rfl rfl rfl (by intro x hx; obtain ⟨⟨_, z0, q0⟩, ⟨_, z1, q1⟩⟩ := hx.at2 1 0 rfl; go_simp; all_goals rfl) ?_
 simp only [Blk.putC, setM, cI, sA, sB]
 clear HS
 refine ld fun W1 HS => ?_
 go_wp2
 obtain ⟨r0, r1⟩ := HS.out.two 1 0 rfl rfl
 have HF : span_Sbounds x0 = P.mk (x0.lo ||| (x0.hi &&& 9223372036854775808#64)) (x0.lo ||| (x0.hi &&& ~~~9223372036854775808#64)) := by
  unfold span_Sbounds
  rfl
 exact bodyPost_ret (v := vI (P.mk (x0.lo ||| (x0.hi &&& 9223372036854775808#64)) (x0.lo ||| (x0.hi &&& ~~~9223372036854775808#64)))) (by simp [results, Tryz.results48, go_sem, r0, r1, vI]) rfl ⟨(by first | (rw [HF]; done) | (rw [HF]; rfl)), HS.out.below⟩
end Go.Proofs.YtmcapfbkedfdkaaGreatDoor.Sp
