/-
  The contracts of span's calls: products, shifts.
-/
import Derived.Deep.DeepCutAuto
import Derived.Test.YtmcapfbkedfdkaaGreatDoorSpC
namespace Go.Proofs.YtmcapfbkedfdkaaGreatDoor.Sp
set_option maxRecDepth 100000
set_option maxHeartbeats 1000000
open Go.RowKit Go.Proofs.YtmcapfbkedfdkaaGreatDoor.Num Go.Proofs.YtmcapfbkedfdkaaGreatDoor.Up
theorem span_count_any (x0 : BitVec 64)   (w : World) :
  Calls Tryz.prog 134 #[.int .i64 (ti (x0))] w fun e w' => e = .returned (.int .u64 (tn ((x0 % 64#64)))) ∧ Below w.heap.size w w' := by
 go_enter Tryz.func134, Tryz.ntmps134
 have HS : Hid (St w [] _) := hid (st_nil w)
 go_upto_region 1 with fail
 refine lnb HS.out rfl ?_
 refine lm 0 0 rfl rfl rfl rfl ?_
 simp only [sA, sB]
 refine lv 1 (.int .u64 (tn (x0))) rfl rfl (by intro x hx; go_simp; (first | done | exact backI x0 | exact congrArg _ (backI x0) | (rw [backI x0]; done) | (rw [backI x0]; rfl))) ?_
 simp only [sA, sB]
 refine lv 2 (.int .u64 (tn (x0 % 64#64))) rfl rfl (by intro x hx; go_simp; (first | done | exact remUT x0 64#64 | exact congrArg _ (remUT x0 64#64) | (rw [remUT x0 64#64]; done) | (rw [remUT x0 64#64]; rfl))) ?_
 simp only [sA, sB]
 refine la 3 5 rfl rfl rfl rfl ?_
 simp only [sA, sB]
 clear HS
 refine ld fun W1 HS => ?_
 go_wp2
 exact bodyPost_ret (v := .int .u64 (tn (x0 % 64#64))) (by simp [results, Tryz.results134, go_sem]) rfl ⟨rfl, HS.out.below⟩
theorem span_down_uint64_any (x0 : P) (x1 : BitVec 64)   (w : World) :
  Calls Tryz.prog 135 #[vU x0, .int .i64 (ti (x1))] w fun e w' => e = .returned (vU (P.mk (x0.lo >>> (x1 % 64#64).toNat) (x0.hi >>> (x1 % 64#64).toNat))) ∧ Below w.heap.size w w' := by
 simp only [vU]
 go_enter Tryz.func135, Tryz.ntmps135
 have HS : Hid (St w [⟨w.heap.size, [some (.int .u64 (tn (x0.lo))), some (.int .u64 (tn (x0.hi)))], 89⟩, ⟨w.heap.size + 1, [some (.int .u64 0), some (.int .u64 0)], 89⟩] _) := hid (((st_nil w).alloc (k := w.heap.size) rfl [.int .u64 (tn (x0.lo)), .int .u64 (tn (x0.hi))] 89).alloc (k := w.heap.size + 1) (by simp) [.int .u64 0, .int .u64 0] 89)
 go_upto_region 1 with fail
 refine upb 12 (HS.out.drew.forget 1 0 2 rfl) rfl ?_
 simp only [Blk.dropC, noneM, sA, sB]
 refine tv 0 (.pointer (some ⟨w.heap.size, 0, none⟩)) rfl rfl (by intro x hx; go_simp; all_goals exact rfl) ?_
 simp only [sA, sB]
 refine tv 1 (.int .u64 (tn (x0.lo))) rfl rfl (by intro x hx; have f0 := hx.load 0 0 rfl rfl; go_simp; all_goals exact rfl) ?_
 simp only [sA, sB]
 refine tm 2 1 rfl rfl rfl rfl ?_
 simp only [sA, sB]
 refine tc 3 134 #[.int .i64 (ti (x1))] (.int .u64 (tn (x1 % 64#64))) rfl rfl (by intro x hx; exact span_count_any x1 _) ?_
 simp only [sA, sB]
 refine tv 4 (.int .u64 (tn (x0.lo >>> (x1 % 64#64).toNat))) rfl rfl (by intro x hx; have hy := tn_lo (x1 % 64#64); go_simp; (first | done | exact shrUU x0.lo (x1 % 64#64) hy | exact congrArg _ (shrUU x0.lo (x1 % 64#64) hy) | (rw [shrUU x0.lo (x1 % 64#64) hy]; done) | (rw [shrUU x0.lo (x1 % 64#64) hy]; rfl))) ?_
 simp only [sA, sB]
 refine tv 5 (.pointer (some ⟨w.heap.size, 1, none⟩)) rfl rfl (by intro x hx; go_simp; all_goals exact rfl) ?_
 simp only [sA, sB]
 refine tv 6 (.int .u64 (tn (x0.hi))) rfl rfl (by intro x hx; have f0 := hx.load 0 1 rfl rfl; go_simp; all_goals exact rfl) ?_
 simp only [sA, sB]
 refine tm 7 1 rfl rfl rfl rfl ?_
 simp only [sA, sB]
 refine tc 8 134 #[.int .i64 (ti (x1))] (.int .u64 (tn (x1 % 64#64))) rfl rfl (by intro x hx; exact span_count_any x1 _) ?_
 simp only [sA, sB]
 refine tv 9 (.int .u64 (tn (x0.hi >>> (x1 % 64#64).toNat))) rfl rfl (by intro x hx; have hy := tn_lo (x1 % 64#64); go_simp; (first | done | exact shrUU x0.hi (x1 % 64#64) hy | exact congrArg _ (shrUU x0.hi (x1 % 64#64) hy) | (rw [shrUU x0.hi (x1 % 64#64) hy]; done) | (rw [shrUU x0.hi (x1 % 64#64) hy]; rfl))) ?_
 simp only [sA, sB]
 refine tv 10 (vU (P.mk (x0.lo >>> (x1 % 64#64).toNat) (x0.hi >>> (x1 % 64#64).toNat))) rfl rfl (by intro x hx; go_simp; all_goals exact rfl) ?_
 simp only [sA, sB, vU]
 refine ts 11 1 0 (cU (P.mk (x0.lo >>> (x1 % 64#64).toNat) (x0.hi >>> (x1 % 64#64).toNat))) rfl rfl rfl (by intro x hx; obtain ⟨⟨_, z0, q0⟩, ⟨_, z1, q1⟩⟩ := hx.at2 1 0 rfl; go_simp; all_goals rfl) ?_
 simp only [Blk.putC, setM, cU, sA, sB]
 clear HS
 refine td fun W1 HS => ?_
 go_wp2
 obtain ⟨r0, r1⟩ := HS.out.two 1 0 rfl rfl
 exact bodyPost_ret (v := vU (P.mk (x0.lo >>> (x1 % 64#64).toNat) (x0.hi >>> (x1 % 64#64).toNat))) (by simp [results, Tryz.results135, go_sem, r0, r1, vU]) rfl ⟨rfl, HS.out.below⟩
theorem span_Rsh_any (x0 : P) (x1 : BitVec 64)   (w : World) :
  Calls Tryz.prog 120 #[vU x0, .int .i64 (ti (x1))] w fun e w' => e = .returned (vU (P.mk (x0.lo >>> (x1 % 64#64).toNat) (x0.hi >>> (x1 % 64#64).toNat))) ∧ Below w.heap.size w w' := by
 simp only [vU]
 go_enter Tryz.func120, Tryz.ntmps120
 have HS : Hid (St w [⟨w.heap.size, [some (.int .u64 (tn (x0.lo))), some (.int .u64 (tn (x0.hi)))], 27⟩, ⟨w.heap.size + 1, [some (.int .u64 0), some (.int .u64 0)], 27⟩] _) := hid (((st_nil w).alloc (k := w.heap.size) rfl [.int .u64 (tn (x0.lo)), .int .u64 (tn (x0.hi))] 27).alloc (k := w.heap.size + 1) (by simp) [.int .u64 0, .int .u64 0] 27)
 go_upto_region 1 with fail
 refine lnb HS.out rfl ?_
 refine lv 0 (vU x0) rfl rfl (by intro x hx; obtain ⟨f0, f1⟩ := hx.two 0 0 rfl rfl; go_simp; all_goals exact rfl) ?_
 simp only [sA, sB, vU]
 refine lc 1 86 #[vU x0] (vU x0) rfl rfl (by intro x hx; exact span_unsigned_any x0 _) ?_
 simp only [sA, sB, vU]
 refine lm 2 1 rfl rfl rfl rfl ?_
 simp only [sA, sB]
 refine lc 3 135 #[vU x0, .int .i64 (ti (x1))] (vU (P.mk (x0.lo >>> (x1 % 64#64).toNat) (x0.hi >>> (x1 % 64#64).toNat))) rfl rfl (by intro x hx; exact span_down_uint64_any x0 x1 _) ?_
 simp only [sA, sB, vU]
 refine lc 4 56 #[vU (P.mk (x0.lo >>> (x1 % 64#64).toNat) (x0.hi >>> (x1 % 64#64).toNat))] (vU (P.mk (x0.lo >>> (x1 % 64#64).toNat) (x0.hi >>> (x1 % 64#64).toNat))) rfl rfl (by intro x hx; exact span_toUnsigned_any (P.mk (x0.lo >>> (x1 % 64#64).toNat) (x0.hi >>> (x1 % 64#64).toNat)) _) ?_
 simp only [sA, sB, vU]
 refine ls 5 1 0 (cU (P.mk (x0.lo >>> (x1 % 64#64).toNat) (x0.hi >>> (x1 % 64#64).toNat))) rfl rfl rfl (by intro x hx; obtain ⟨⟨_, z0, q0⟩, ⟨_, z1, q1⟩⟩ := hx.at2 1 0 rfl; go_simp; all_goals rfl) ?_
 simp only [Blk.putC, setM, cU, sA, sB]
 clear HS
 refine ld fun W1 HS => ?_
 go_wp2
 obtain ⟨r0, r1⟩ := HS.out.two 1 0 rfl rfl
 exact bodyPost_ret (v := vU (P.mk (x0.lo >>> (x1 % 64#64).toNat) (x0.hi >>> (x1 % 64#64).toNat))) (by simp [results, Tryz.results120, go_sem, r0, r1, vU]) rfl ⟨rfl, HS.out.below⟩
def span_down_int64 (x0 : P) (x1 : BitVec 64)  : P :=
 P.mk (BitVec.sshiftRight x0.lo (x1 % 64#64).toNat) (BitVec.sshiftRight x0.hi (x1 % 64#64).toNat)
theorem span_down_int64_any (x0 : P) (x1 : BitVec 64)   (w : World) :
  Calls Tryz.prog 136 #[vI x0, .int .i64 (ti (x1))] w fun e w' => e = .returned (vI (span_down_int64 x0 x1)) ∧ Below w.heap.size w w' := by
 simp only [vI]
 go_enter Tryz.func136, Tryz.ntmps136
 have HS : Hid (St w [⟨w.heap.size, [some (.int .i64 (ti (x0.lo))), some (.int .i64 (ti (x0.hi)))], 93⟩, ⟨w.heap.size + 1, [some (.int .i64 0), some (.int .i64 0)], 93⟩] _) := hid (((st_nil w).alloc (k := w.heap.size) rfl [.int .i64 (ti (x0.lo)), .int .i64 (ti (x0.hi))] 93).alloc (k := w.heap.size + 1) (by simp) [.int .i64 0, .int .i64 0] 93)
 go_upto_region 1 with fail
 refine upb 12 (HS.out.drew.forget 1 0 2 rfl) rfl ?_
 simp only [Blk.dropC, noneM, sA, sB]
 refine tv 0 (.pointer (some ⟨w.heap.size, 0, none⟩)) rfl rfl (by intro x hx; go_simp; all_goals exact rfl) ?_
 simp only [sA, sB]
 refine tv 1 (.int .i64 (ti (x0.lo))) rfl rfl (by intro x hx; have f0 := hx.load 0 0 rfl rfl; go_simp; all_goals exact rfl) ?_
 simp only [sA, sB]
 refine tm 2 1 rfl rfl rfl rfl ?_
 simp only [sA, sB]
 refine tc 3 134 #[.int .i64 (ti (x1))] (.int .u64 (tn (x1 % 64#64))) rfl rfl (by intro x hx; exact span_count_any x1 _) ?_
 simp only [sA, sB]
 refine tv 4 (.int .i64 (ti (BitVec.sshiftRight x0.lo (x1 % 64#64).toNat))) rfl rfl (by intro x hx; have hy := tn_lo (x1 % 64#64); go_simp; (first | done | exact shrIU x0.lo (x1 % 64#64) hy | exact congrArg _ (shrIU x0.lo (x1 % 64#64) hy) | (rw [shrIU x0.lo (x1 % 64#64) hy]; done) | (rw [shrIU x0.lo (x1 % 64#64) hy]; rfl))) ?_
 simp only [sA, sB]
 refine tv 5 (.pointer (some ⟨w.heap.size, 1, none⟩)) rfl rfl (by intro x hx; go_simp; all_goals exact rfl) ?_
 simp only [sA, sB]
 refine tv 6 (.int .i64 (ti (x0.hi))) rfl rfl (by intro x hx; have f0 := hx.load 0 1 rfl rfl; go_simp; all_goals exact rfl) ?_
 simp only [sA, sB]
 refine tm 7 1 rfl rfl rfl rfl ?_
 simp only [sA, sB]
 refine tc 8 134 #[.int .i64 (ti (x1))] (.int .u64 (tn (x1 % 64#64))) rfl rfl (by intro x hx; exact span_count_any x1 _) ?_
 simp only [sA, sB]
 refine tv 9 (.int .i64 (ti (BitVec.sshiftRight x0.hi (x1 % 64#64).toNat))) rfl rfl (by intro x hx; have hy := tn_lo (x1 % 64#64); go_simp; (first | done | exact shrIU x0.hi (x1 % 64#64) hy | exact congrArg _ (shrIU x0.hi (x1 % 64#64) hy) | (rw [shrIU x0.hi (x1 % 64#64) hy]; done) | (rw [shrIU x0.hi (x1 % 64#64) hy]; rfl))) ?_
 simp only [sA, sB]
 refine tv 10 (vI (P.mk (BitVec.sshiftRight x0.lo (x1 % 64#64).toNat) (BitVec.sshiftRight x0.hi (x1 % 64#64).toNat))) rfl rfl (by intro x hx; go_simp; all_goals exact rfl) ?_
 simp only [sA, sB, vI]
 refine ts 11 1 0 (cI (P.mk (BitVec.sshiftRight x0.lo (x1 % 64#64).toNat) (BitVec.sshiftRight x0.hi (x1 % 64#64).toNat))) rfl rfl rfl (by intro x hx; obtain ⟨⟨_, z0, q0⟩, ⟨_, z1, q1⟩⟩ := hx.at2 1 0 rfl; go_simp; all_goals rfl) ?_
 simp only [Blk.putC, setM, cI, sA, sB]
 clear HS
 refine td fun W1 HS => ?_
 go_wp2
 obtain ⟨r0, r1⟩ := HS.out.two 1 0 rfl rfl
 have HF : span_down_int64 x0 x1 = P.mk (BitVec.sshiftRight x0.lo (x1 % 64#64).toNat) (BitVec.sshiftRight x0.hi (x1 % 64#64).toNat) := by
  unfold span_down_int64
  rfl
 exact bodyPost_ret (v := vI (P.mk (BitVec.sshiftRight x0.lo (x1 % 64#64).toNat) (BitVec.sshiftRight x0.hi (x1 % 64#64).toNat))) (by simp [results, Tryz.results136, go_sem, r0, r1, vI]) rfl ⟨(by first | (rw [HF]; done) | (rw [HF]; rfl)), HS.out.below⟩
theorem span_Sarsh_any (x0 : P) (x1 : BitVec 64)   (w : World) :
  Calls Tryz.prog 122 #[vI x0, .int .i64 (ti (x1))] w fun e w' => e = .returned (vI (span_down_int64 x0 x1)) ∧ Below w.heap.size w w' := by
 simp only [vI]
 go_enter Tryz.func122, Tryz.ntmps122
 have HS : Hid (St w [⟨w.heap.size, [some (.int .i64 (ti (x0.lo))), some (.int .i64 (ti (x0.hi)))], 29⟩, ⟨w.heap.size + 1, [some (.int .i64 0), some (.int .i64 0)], 29⟩] _) := hid (((st_nil w).alloc (k := w.heap.size) rfl [.int .i64 (ti (x0.lo)), .int .i64 (ti (x0.hi))] 29).alloc (k := w.heap.size + 1) (by simp) [.int .i64 0, .int .i64 0] 29)
 go_upto_region 1 with fail
 refine lnb HS.out rfl ?_
 refine lv 0 (vI x0) rfl rfl (by intro x hx; obtain ⟨f0, f1⟩ := hx.two 0 0 rfl rfl; go_simp; all_goals exact rfl) ?_
 simp only [sA, sB, vI]
 refine lc 1 88 #[vI x0] (vI x0) rfl rfl (by intro x hx; exact span_signed_any x0 _) ?_
 simp only [sA, sB, vI]
 refine lm 2 1 rfl rfl rfl rfl ?_
 simp only [sA, sB]
 refine lc 3 136 #[vI x0, .int .i64 (ti (x1))] (vI (span_down_int64 x0 x1)) rfl rfl (by intro x hx; exact span_down_int64_any x0 x1 _) ?_
 simp only [sA, sB, vI]
 refine lc 4 58 #[vI (span_down_int64 x0 x1)] (vI (span_down_int64 x0 x1)) rfl rfl (by intro x hx; exact span_toSigned_any (span_down_int64 x0 x1) _) ?_
 simp only [sA, sB, vI]
 refine ls 5 1 0 (cI (span_down_int64 x0 x1)) rfl rfl rfl (by intro x hx; obtain ⟨⟨_, z0, q0⟩, ⟨_, z1, q1⟩⟩ := hx.at2 1 0 rfl; go_simp; all_goals rfl) ?_
 simp only [Blk.putC, setM, cI, sA, sB]
 clear HS
 refine ld fun W1 HS => ?_
 go_wp2
 obtain ⟨r0, r1⟩ := HS.out.two 1 0 rfl rfl
 exact bodyPost_ret (v := vI (span_down_int64 x0 x1)) (by simp [results, Tryz.results122, go_sem, r0, r1, vI]) rfl ⟨rfl, HS.out.below⟩
def span_Cut (x0 : P)  : P :=
 bif gtU (x0.hi - x0.lo) 4294967295#64 then (P.mk 0#64 4294967295#64) else (bif gtW (BitVec.setWidth 32 x0.lo) (BitVec.setWidth 32 x0.hi) then (P.mk 0#64 4294967295#64) else (P.mk (BitVec.setWidth 64 (BitVec.setWidth 32 x0.lo)) (BitVec.setWidth 64 (BitVec.setWidth 32 x0.hi))))
theorem span_Cut_any (x0 : P)   (w : World) :
   Calls Tryz.prog 77 #[vU x0] w fun e w' => e = .returned (vU (span_Cut x0)) ∧ Below w.heap.size w w' := by
 simp only [vU]
 go_enter Tryz.func77, Tryz.ntmps77
 have HS : Hid (St w [⟨w.heap.size, [some (.int .u64 (tn (x0.lo))), some (.int .u64 (tn (x0.hi)))], 27⟩, ⟨w.heap.size + 1, [some (.int .u64 0), some (.int .u64 0)], 27⟩] _) := hid (((st_nil w).alloc (k := w.heap.size) rfl [.int .u64 (tn (x0.lo)), .int .u64 (tn (x0.hi))] 27).alloc (k := w.heap.size + 1) (by simp) [.int .u64 0, .int .u64 0] 27)
 go_upto_region 1 with fail
 refine upb 8 (HS.out.drew) rfl ?_
 refine tv 0 (.pointer (some ⟨w.heap.size, 0, none⟩)) rfl rfl (by intro x hx; go_simp; all_goals exact rfl) ?_
 simp only [sA, sB]
 refine tv 1 (.int .u64 (tn (x0.lo))) rfl rfl (by intro x hx; have f0 := hx.load 0 0 rfl rfl; go_simp; all_goals exact rfl) ?_
 simp only [sA, sB]
 refine tv 2 (.int .u32 (tn (BitVec.setWidth 32 x0.lo))) rfl rfl (by intro x hx; go_simp; (first | done | exact cutU64 x0.lo | exact congrArg _ (cutU64 x0.lo) | (rw [cutU64 x0.lo]; done) | (rw [cutU64 x0.lo]; rfl))) ?_
 simp only [sA, sB]
 refine tv 3 (.pointer (some ⟨w.heap.size, 1, none⟩)) rfl rfl (by intro x hx; go_simp; all_goals exact rfl) ?_
 simp only [sA, sB]
 refine tv 4 (.int .u64 (tn (x0.hi))) rfl rfl (by intro x hx; have f0 := hx.load 0 1 rfl rfl; go_simp; all_goals exact rfl) ?_
 simp only [sA, sB]
 refine tv 5 (.int .u32 (tn (BitVec.setWidth 32 x0.hi))) rfl rfl (by intro x hx; go_simp; (first | done | exact cutU64 x0.hi | exact congrArg _ (cutU64 x0.hi) | (rw [cutU64 x0.hi]; done) | (rw [cutU64 x0.hi]; rfl))) ?_
 simp only [sA, sB]
 refine ta 6 7 rfl rfl rfl rfl ?_
 simp only [sA, sB]
 refine ta 7 10 rfl rfl rfl rfl ?_
 simp only [sA, sB]
 clear HS
 refine td fun W1 HS => ?_
 go_upto_region 2 with fail
 refine lnb HS.out rfl ?_
 refine lv 0 (.pointer (some ⟨w.heap.size, 1, none⟩)) rfl rfl (by intro x hx; go_simp; all_goals exact rfl) ?_
 simp only [sA, sB]
 refine lv 1 (.int .u64 (tn (x0.hi))) rfl rfl (by intro x hx; have f0 := hx.load 0 1 rfl rfl; go_simp; all_goals exact rfl) ?_
 simp only [sA, sB]
 refine lv 2 (.pointer (some ⟨w.heap.size, 0, none⟩)) rfl rfl (by intro x hx; go_simp; all_goals exact rfl) ?_
 simp only [sA, sB]
 refine lv 3 (.int .u64 (tn (x0.lo))) rfl rfl (by intro x hx; have f0 := hx.load 0 0 rfl rfl; go_simp; all_goals exact rfl) ?_
 simp only [sA, sB]
 refine lv 4 (.int .u64 (tn (x0.hi - x0.lo))) rfl rfl (by intro x hx; go_simp; (first | done | exact subUT x0.hi x0.lo | exact congrArg _ (subUT x0.hi x0.lo) | (rw [subUT x0.hi x0.lo]; done) | (rw [subUT x0.hi x0.lo]; rfl))) ?_
 simp only [sA, sB]
 refine lv 5 (.bool (gtU (x0.hi - x0.lo) 4294967295#64)) rfl rfl (by intro x hx; go_simp; (first | done | exact gtUT (x0.hi - x0.lo) 4294967295#64 | exact congrArg _ (gtUT (x0.hi - x0.lo) 4294967295#64) | (rw [gtUT (x0.hi - x0.lo) 4294967295#64]; done) | (rw [gtUT (x0.hi - x0.lo) 4294967295#64]; rfl))) ?_
 simp only [sA, sB]
 refine lm 6 16 rfl rfl rfl rfl ?_
 simp only [sA, sB]
 cases h1 : (gtU (x0.hi - x0.lo) 4294967295#64)
 ·replace h1 := hid h1
  refine lv 7 (.int .u32 (tn (BitVec.setWidth 32 x0.lo))) rfl rfl (by intro x hx; go_simp; all_goals exact rfl) ?_
  simp only [sA, sB]
  refine lv 8 (.int .u32 (tn (BitVec.setWidth 32 x0.hi))) rfl rfl (by intro x hx; go_simp; all_goals exact rfl) ?_
  simp only [sA, sB]
  refine lv 9 (.bool (gtW (BitVec.setWidth 32 x0.lo) (BitVec.setWidth 32 x0.hi))) rfl rfl (by intro x hx; go_simp; (first | done | exact gtWT (BitVec.setWidth 32 x0.lo) (BitVec.setWidth 32 x0.hi) | exact congrArg _ (gtWT (BitVec.setWidth 32 x0.lo) (BitVec.setWidth 32 x0.hi)) | (rw [gtWT (BitVec.setWidth 32 x0.lo) (BitVec.setWidth 32 x0.hi)]; done) | (rw [gtWT (BitVec.setWidth 32 x0.lo) (BitVec.setWidth 32 x0.hi)]; rfl))) ?_
  simp only [sA, sB]
  refine lv 10 (.bool (gtW (BitVec.setWidth 32 x0.lo) (BitVec.setWidth 32 x0.hi))) rfl rfl (by intro x hx; go_simp; all_goals exact rfl) ?_
  simp only [sA, sB]
  clear HS
  refine ld fun W2 HS => ?_
  cases h2 : (gtW (BitVec.setWidth 32 x0.lo) (BitVec.setWidth 32 x0.hi))
  ·replace h2 := hid h2
   go_upto_region 4 with fail
   refine lnb HS.out rfl ?_
   refine lm 0 3 rfl rfl rfl rfl ?_
   simp only [sA, sB]
   refine lv 1 (.int .u64 (tn (BitVec.setWidth 64 (BitVec.setWidth 32 x0.lo)))) rfl rfl (by intro x hx; go_simp; (first | done | exact wide32 (BitVec.setWidth 32 x0.lo) | exact congrArg _ (wide32 (BitVec.setWidth 32 x0.lo)) | (rw [wide32 (BitVec.setWidth 32 x0.lo)]; done) | (rw [wide32 (BitVec.setWidth 32 x0.lo)]; rfl))) ?_
   simp only [sA, sB]
   refine lm 2 4 rfl rfl rfl rfl ?_
   simp only [sA, sB]
   refine lv 3 (.int .u64 (tn (BitVec.setWidth 64 (BitVec.setWidth 32 x0.hi)))) rfl rfl (by intro x hx; go_simp; (first | done | exact wide32 (BitVec.setWidth 32 x0.hi) | exact congrArg _ (wide32 (BitVec.setWidth 32 x0.hi)) | (rw [wide32 (BitVec.setWidth 32 x0.hi)]; done) | (rw [wide32 (BitVec.setWidth 32 x0.hi)]; rfl))) ?_
   simp only [sA, sB]
   refine lv 4 (vU (P.mk (BitVec.setWidth 64 (BitVec.setWidth 32 x0.lo)) (BitVec.setWidth 64 (BitVec.setWidth 32 x0.hi)))) rfl rfl (by intro x hx; go_simp; all_goals exact rfl) ?_
   simp only [sA, sB, vU]
   refine ls 5 1 0 (cU (P.mk (BitVec.setWidth 64 (BitVec.setWidth 32 x0.lo)) (BitVec.setWidth 64 (BitVec.setWidth 32 x0.hi)))) rfl rfl rfl (by intro x hx; obtain ⟨⟨_, z0, q0⟩, ⟨_, z1, q1⟩⟩ := hx.at2 1 0 rfl; go_simp; all_goals rfl) ?_
   simp only [Blk.putC, setM, cU, sA, sB]
   clear HS
   refine ld fun W3 HS => ?_
   go_wp2
   obtain ⟨r0, r1⟩ := HS.out.two 1 0 rfl rfl
   have HF : span_Cut x0 = P.mk (BitVec.setWidth 64 (BitVec.setWidth 32 x0.lo)) (BitVec.setWidth 64 (BitVec.setWidth 32 x0.hi)) := by
     unfold span_Cut
     rw [cond_f h1.out, cond_f h2.out]
   exact bodyPost_ret (v := vU (P.mk (BitVec.setWidth 64 (BitVec.setWidth 32 x0.lo)) (BitVec.setWidth 64 (BitVec.setWidth 32 x0.hi)))) (by simp [results, Tryz.results77, go_sem, r0, r1, vU]) rfl ⟨(by first | (rw [HF]; done) | (rw [HF]; rfl)), HS.out.below⟩
  ·replace h2 := hid h2
   go_upto_region 3 with fail
   refine lnb HS.out rfl ?_
   refine lv 0 (.agg #[.int .u64 0, .int .u64 4294967295]) rfl rfl (by intro x hx; go_simp; all_goals exact rfl) ?_
   simp only [sA, sB]
   refine ls 1 1 0 [.int .u64 0, .int .u64 4294967295] rfl rfl rfl (by intro x hx; obtain ⟨⟨_, z0, q0⟩, ⟨_, z1, q1⟩⟩ := hx.at2 1 0 rfl; go_simp; all_goals rfl) ?_
   simp only [Blk.putC, setM, sA, sB]
   clear HS
   refine ld fun W3 HS => ?_
   go_wp2
   obtain ⟨r0, r1⟩ := HS.out.two 1 0 rfl rfl
   have HF : span_Cut x0 = P.mk 0#64 4294967295#64 := by
     unfold span_Cut
     rw [cond_f h1.out, cond_t h2.out]
   exact bodyPost_ret (v := .agg #[.int .u64 0, .int .u64 4294967295]) (by simp [results, Tryz.results77, go_sem, r0, r1]) rfl ⟨(by first | (rw [HF]; done) | (rw [HF]; rfl)), HS.out.below⟩
 ·replace h1 := hid h1
  refine lin_no (i := 7) rfl rfl (by kernel_rfl) ?_
  simp only [sA, sB]
  refine lin_no (i := 8) rfl rfl (by kernel_rfl) ?_
  simp only [sA, sB]
  refine lin_no (i := 9) rfl rfl (by kernel_rfl) ?_
  simp only [sA, sB]
  refine lv 10 (.bool true) rfl rfl (by intro x hx; go_simp; all_goals exact rfl) ?_
  simp only [sA, sB]
  clear HS
  refine ld fun W2 HS => ?_
  go_upto_region 3 with fail
  refine lnb HS.out rfl ?_
  refine lv 0 (.agg #[.int .u64 0, .int .u64 4294967295]) rfl rfl (by intro x hx; go_simp; all_goals exact rfl) ?_
  simp only [sA, sB]
  refine ls 1 1 0 [.int .u64 0, .int .u64 4294967295] rfl rfl rfl (by intro x hx; obtain ⟨⟨_, z0, q0⟩, ⟨_, z1, q1⟩⟩ := hx.at2 1 0 rfl; go_simp; all_goals rfl) ?_
  simp only [Blk.putC, setM, sA, sB]
  clear HS
  refine ld fun W3 HS => ?_
  go_wp2
  obtain ⟨r0, r1⟩ := HS.out.two 1 0 rfl rfl
  have HF : span_Cut x0 = P.mk 0#64 4294967295#64 := by
    unfold span_Cut
    rw [cond_t h1.out]
  exact bodyPost_ret (v := .agg #[.int .u64 0, .int .u64 4294967295]) (by simp [results, Tryz.results77, go_sem, r0, r1]) rfl ⟨(by first | (rw [HF]; done) | (rw [HF]; rfl)), HS.out.below⟩
def span_Div (x0 : P) (x1 : P)  : P :=
 bif (x1.hi == 0#64) then (P.mk 0#64 0#64) else (bif (x1.lo == 0#64) then (P.mk 0#64 x0.hi) else (P.mk (x0.lo / x1.hi) (x0.hi / x1.lo)))
theorem span_Div_any (x0 : P) (x1 : P)   (w : World) :
   Calls Tryz.prog 73 #[vU x0, vU x1] w fun e w' => e = .returned (vU (span_Div x0 x1)) ∧ Below w.heap.size w w' := by
 simp only [vU]
 go_enter Tryz.func73, Tryz.ntmps73
 have HS : Hid (St w [⟨w.heap.size, [some (.int .u64 (tn (x0.lo))), some (.int .u64 (tn (x0.hi)))], 27⟩, ⟨w.heap.size + 1, [some (.int .u64 (tn (x1.lo))), some (.int .u64 (tn (x1.hi)))], 27⟩, ⟨w.heap.size + 2, [some (.int .u64 0), some (.int .u64 0)], 27⟩] _) := hid ((((st_nil w).alloc (k := w.heap.size) rfl [.int .u64 (tn (x0.lo)), .int .u64 (tn (x0.hi))] 27).alloc (k := w.heap.size + 1) (by simp) [.int .u64 (tn (x1.lo)), .int .u64 (tn (x1.hi))] 27).alloc (k := w.heap.size + 2) (by simp) [.int .u64 0, .int .u64 0] 27)
 go_upto_region 1 with fail
 refine lnb HS.out rfl ?_
 refine lv 0 (.pointer (some ⟨w.heap.size + 1, 1, none⟩)) rfl rfl (by intro x hx; go_simp; all_goals exact rfl) ?_
 simp only [sA, sB]
 refine lv 1 (.int .u64 (tn (x1.hi))) rfl rfl (by intro x hx; have f0 := hx.load 1 1 rfl rfl; go_simp; all_goals exact rfl) ?_
 simp only [sA, sB]
 refine lv 2 (.bool ((x1.hi == 0#64))) rfl rfl (by intro x hx; go_simp; (first | done | exact eqUT x1.hi 0#64 | exact congrArg _ (eqUT x1.hi 0#64) | (rw [eqUT x1.hi 0#64]; done) | (rw [eqUT x1.hi 0#64]; rfl))) ?_
 simp only [sA, sB]
 refine la 3 8 rfl rfl rfl rfl ?_
 simp only [sA, sB]
 clear HS
 refine ld fun W1 HS => ?_
 cases h1 : ((x1.hi == 0#64))
 ·replace h1 := hid h1
  go_upto_region 3 with fail
  refine lnb HS.out rfl ?_
  refine lv 0 (.pointer (some ⟨w.heap.size + 1, 0, none⟩)) rfl rfl (by intro x hx; go_simp; all_goals exact rfl) ?_
  simp only [sA, sB]
  refine lv 1 (.int .u64 (tn (x1.lo))) rfl rfl (by intro x hx; have f0 := hx.load 1 0 rfl rfl; go_simp; all_goals exact rfl) ?_
  simp only [sA, sB]
  refine lv 2 (.bool ((x1.lo == 0#64))) rfl rfl (by intro x hx; go_simp; (first | done | exact eqUT x1.lo 0#64 | exact congrArg _ (eqUT x1.lo 0#64) | (rw [eqUT x1.lo 0#64]; done) | (rw [eqUT x1.lo 0#64]; rfl))) ?_
  simp only [sA, sB]
  refine la 3 13 rfl rfl rfl rfl ?_
  simp only [sA, sB]
  clear HS
  refine ld fun W2 HS => ?_
  cases h2 : ((x1.lo == 0#64))
  ·replace h2 := hid h2
   go_upto_region 5 with fail
   refine upb 12 (HS.out.drew.forget 2 0 2 rfl) rfl ?_
   simp only [Blk.dropC, noneM, sA, sB]
   refine tv 0 (.pointer (some ⟨w.heap.size, 0, none⟩)) rfl rfl (by intro x hx; go_simp; all_goals exact rfl) ?_
   simp only [sA, sB]
   refine tv 1 (.int .u64 (tn (x0.lo))) rfl rfl (by intro x hx; have f0 := hx.load 0 0 rfl rfl; go_simp; all_goals exact rfl) ?_
   simp only [sA, sB]
   refine tv 2 (.pointer (some ⟨w.heap.size + 1, 1, none⟩)) rfl rfl (by intro x hx; go_simp; all_goals exact rfl) ?_
   simp only [sA, sB]
   refine tv 3 (.int .u64 (tn (x1.hi))) rfl rfl (by intro x hx; have f0 := hx.load 1 1 rfl rfl; go_simp; all_goals exact rfl) ?_
   simp only [sA, sB]
   refine tv 4 (.int .u64 (tn (x0.lo / x1.hi))) rfl rfl (by intro x hx; have hy := ne0U h1.out; go_simp; (first | done | exact (if_neg hy).trans (congrArg (fun v => Result.ok (Next.value (Value.int .u64 v)) x) (quoUT x0.lo x1.hi)) | exact quoUT x0.lo x1.hi | exact congrArg _ (quoUT x0.lo x1.hi) | (rw [quoUT x0.lo x1.hi]; done) | (rw [quoUT x0.lo x1.hi]; rfl))) ?_
   simp only [sA, sB]
   refine tv 5 (.pointer (some ⟨w.heap.size, 1, none⟩)) rfl rfl (by intro x hx; go_simp; all_goals exact rfl) ?_
   simp only [sA, sB]
   refine tv 6 (.int .u64 (tn (x0.hi))) rfl rfl (by intro x hx; have f0 := hx.load 0 1 rfl rfl; go_simp; all_goals exact rfl) ?_
   simp only [sA, sB]
   refine tv 7 (.pointer (some ⟨w.heap.size + 1, 0, none⟩)) rfl rfl (by intro x hx; go_simp; all_goals exact rfl) ?_
   simp only [sA, sB]
   refine tv 8 (.int .u64 (tn (x1.lo))) rfl rfl (by intro x hx; have f0 := hx.load 1 0 rfl rfl; go_simp; all_goals exact rfl) ?_
   simp only [sA, sB]
   refine tv 9 (.int .u64 (tn (x0.hi / x1.lo))) rfl rfl (by intro x hx; have hy := ne0U h2.out; go_simp; (first | done | exact (if_neg hy).trans (congrArg (fun v => Result.ok (Next.value (Value.int .u64 v)) x) (quoUT x0.hi x1.lo)) | exact quoUT x0.hi x1.lo | exact congrArg _ (quoUT x0.hi x1.lo) | (rw [quoUT x0.hi x1.lo]; done) | (rw [quoUT x0.hi x1.lo]; rfl))) ?_
   simp only [sA, sB]
   refine tv 10 (vU (P.mk (x0.lo / x1.hi) (x0.hi / x1.lo))) rfl rfl (by intro x hx; go_simp; all_goals exact rfl) ?_
   simp only [sA, sB, vU]
   refine ts 11 2 0 (cU (P.mk (x0.lo / x1.hi) (x0.hi / x1.lo))) rfl rfl rfl (by intro x hx; obtain ⟨⟨_, z0, q0⟩, ⟨_, z1, q1⟩⟩ := hx.at2 2 0 rfl; go_simp; all_goals rfl) ?_
   simp only [Blk.putC, setM, cU, sA, sB]
   clear HS
   refine td fun W3 HS => ?_
   go_wp2
   obtain ⟨r0, r1⟩ := HS.out.two 2 0 rfl rfl
   have HF : span_Div x0 x1 = P.mk (x0.lo / x1.hi) (x0.hi / x1.lo) := by
     unfold span_Div
     rw [cond_f h1.out, cond_f h2.out]
   exact bodyPost_ret (v := vU (P.mk (x0.lo / x1.hi) (x0.hi / x1.lo))) (by simp [results, Tryz.results73, go_sem, r0, r1, vU]) rfl ⟨(by first | (rw [HF]; done) | (rw [HF]; rfl)), HS.out.below⟩
  ·replace h2 := hid h2
   go_upto_region 4 with fail
   refine lnb HS.out rfl ?_
   refine lv 0 (.pointer (some ⟨w.heap.size, 1, none⟩)) rfl rfl (by intro x hx; go_simp; all_goals exact rfl) ?_
   simp only [sA, sB]
   refine lv 1 (.int .u64 (tn (x0.hi))) rfl rfl (by intro x hx; have f0 := hx.load 0 1 rfl rfl; go_simp; all_goals exact rfl) ?_
   simp only [sA, sB]
   refine lv 2 (.agg #[.int .u64 0, .int .u64 (tn (x0.hi))]) rfl rfl (by intro x hx; go_simp; all_goals exact rfl) ?_
   simp only [sA, sB]
   refine ls 3 2 0 [.int .u64 0, .int .u64 (tn (x0.hi))] rfl rfl rfl (by intro x hx; obtain ⟨⟨_, z0, q0⟩, ⟨_, z1, q1⟩⟩ := hx.at2 2 0 rfl; go_simp; all_goals rfl) ?_
   simp only [Blk.putC, setM, sA, sB]
   clear HS
   refine ld fun W3 HS => ?_
   go_wp2
   obtain ⟨r0, r1⟩ := HS.out.two 2 0 rfl rfl
   have HF : span_Div x0 x1 = P.mk 0#64 x0.hi := by
     unfold span_Div
     rw [cond_f h1.out, cond_t h2.out]
   exact bodyPost_ret (v := .agg #[.int .u64 0, .int .u64 (tn (x0.hi))]) (by simp [results, Tryz.results73, go_sem, r0, r1]) rfl ⟨(by first | (rw [HF]; done) | (rw [HF]; rfl)), HS.out.below⟩
 ·replace h1 := hid h1
  go_upto_region 2 with fail
  refine lnb HS.out rfl ?_
  refine lc 0 20 #[.int .u64 (tn (0#64))] (vU (P.mk 0#64 0#64)) rfl rfl (by intro x hx; exact span_Of_any 0#64 _) ?_
  simp only [sA, sB, vU]
  refine ls 1 2 0 (cU (P.mk 0#64 0#64)) rfl rfl rfl (by intro x hx; obtain ⟨⟨_, z0, q0⟩, ⟨_, z1, q1⟩⟩ := hx.at2 2 0 rfl; go_simp; all_goals rfl) ?_
  simp only [Blk.putC, setM, cU, sA, sB]
  clear HS
  refine ld fun W2 HS => ?_
  go_wp2
  obtain ⟨r0, r1⟩ := HS.out.two 2 0 rfl rfl
  have HF : span_Div x0 x1 = P.mk 0#64 0#64 := by
    unfold span_Div
    rw [cond_t h1.out]
  exact bodyPost_ret (v := vU (P.mk 0#64 0#64)) (by simp [results, Tryz.results73, go_sem, r0, r1, vU]) rfl ⟨(by first | (rw [HF]; done) | (rw [HF]; rfl)), HS.out.below⟩
def span_Mod (x0 : P) (x1 : P)  : P :=
 bif (x1.hi == 0#64) then (x0) else (bif ltU x0.hi x1.lo then (x0) else (bif (x1.lo == 0#64) then (P.mk 0#64 x0.hi) else (P.mk 0#64 (minU x0.hi (x1.hi - 1#64)))))
theorem span_Mod_any (x0 : P) (x1 : P)   (w : World) :
   Calls Tryz.prog 74 #[vU x0, vU x1] w fun e w' => e = .returned (vU (span_Mod x0 x1)) ∧ Below w.heap.size w w' := by
 simp only [vU]
 go_enter Tryz.func74, Tryz.ntmps74
 have HS : Hid (St w [⟨w.heap.size, [some (.int .u64 (tn (x0.lo))), some (.int .u64 (tn (x0.hi)))], 27⟩, ⟨w.heap.size + 1, [some (.int .u64 (tn (x1.lo))), some (.int .u64 (tn (x1.hi)))], 27⟩, ⟨w.heap.size + 2, [some (.int .u64 0), some (.int .u64 0)], 27⟩] _) := hid ((((st_nil w).alloc (k := w.heap.size) rfl [.int .u64 (tn (x0.lo)), .int .u64 (tn (x0.hi))] 27).alloc (k := w.heap.size + 1) (by simp) [.int .u64 (tn (x1.lo)), .int .u64 (tn (x1.hi))] 27).alloc (k := w.heap.size + 2) (by simp) [.int .u64 0, .int .u64 0] 27)
 go_upto_region 1 with fail
 refine lnb HS.out rfl ?_
 refine lv 0 (.pointer (some ⟨w.heap.size + 1, 1, none⟩)) rfl rfl (by intro x hx; go_simp; all_goals exact rfl) ?_
 simp only [sA, sB]
 refine lv 1 (.int .u64 (tn (x1.hi))) rfl rfl (by intro x hx; have f0 := hx.load 1 1 rfl rfl; go_simp; all_goals exact rfl) ?_
 simp only [sA, sB]
 refine lv 2 (.bool ((x1.hi == 0#64))) rfl rfl (by intro x hx; go_simp; (first | done | exact eqUT x1.hi 0#64 | exact congrArg _ (eqUT x1.hi 0#64) | (rw [eqUT x1.hi 0#64]; done) | (rw [eqUT x1.hi 0#64]; rfl))) ?_
 simp only [sA, sB]
 refine lm 3 8 rfl rfl rfl rfl ?_
 simp only [sA, sB]
 cases h1 : ((x1.hi == 0#64))
 ·replace h1 := hid h1
  refine lv 4 (.pointer (some ⟨w.heap.size, 1, none⟩)) rfl rfl (by intro x hx; go_simp; all_goals exact rfl) ?_
  simp only [sA, sB]
  refine lv 5 (.int .u64 (tn (x0.hi))) rfl rfl (by intro x hx; have f0 := hx.load 0 1 rfl rfl; go_simp; all_goals exact rfl) ?_
  simp only [sA, sB]
  refine lv 6 (.pointer (some ⟨w.heap.size + 1, 0, none⟩)) rfl rfl (by intro x hx; go_simp; all_goals exact rfl) ?_
  simp only [sA, sB]
  refine lv 7 (.int .u64 (tn (x1.lo))) rfl rfl (by intro x hx; have f0 := hx.load 1 0 rfl rfl; go_simp; all_goals exact rfl) ?_
  simp only [sA, sB]
  refine lv 8 (.bool (ltU x0.hi x1.lo)) rfl rfl (by intro x hx; go_simp; (first | done | exact ltUT x0.hi x1.lo | exact congrArg _ (ltUT x0.hi x1.lo) | (rw [ltUT x0.hi x1.lo]; done) | (rw [ltUT x0.hi x1.lo]; rfl))) ?_
  simp only [sA, sB]
  refine lv 9 (.bool (ltU x0.hi x1.lo)) rfl rfl (by intro x hx; go_simp; all_goals exact rfl) ?_
  simp only [sA, sB]
  refine la 10 15 rfl rfl rfl rfl ?_
  simp only [sA, sB]
  clear HS
  refine ld fun W1 HS => ?_
  cases h2 : (ltU x0.hi x1.lo)
  ·replace h2 := hid h2
   go_upto_region 3 with fail
   refine lnb HS.out rfl ?_
   refine lv 0 (.pointer (some ⟨w.heap.size + 1, 0, none⟩)) rfl rfl (by intro x hx; go_simp; all_goals exact rfl) ?_
   simp only [sA, sB]
   refine lv 1 (.int .u64 (tn (x1.lo))) rfl rfl (by intro x hx; have f0 := hx.load 1 0 rfl rfl; go_simp; all_goals exact rfl) ?_
   simp only [sA, sB]
   refine lv 2 (.bool ((x1.lo == 0#64))) rfl rfl (by intro x hx; go_simp; (first | done | exact eqUT x1.lo 0#64 | exact congrArg _ (eqUT x1.lo 0#64) | (rw [eqUT x1.lo 0#64]; done) | (rw [eqUT x1.lo 0#64]; rfl))) ?_
   simp only [sA, sB]
   refine la 3 20 rfl rfl rfl rfl ?_
   simp only [sA, sB]
   clear HS
   refine ld fun W2 HS => ?_
   cases h3 : ((x1.lo == 0#64))
   ·replace h3 := hid h3
    go_upto_region 5 with fail
    refine lnb HS.out rfl ?_
    refine lv 0 (.pointer (some ⟨w.heap.size, 1, none⟩)) rfl rfl (by intro x hx; go_simp; all_goals exact rfl) ?_
    simp only [sA, sB]
    refine lv 1 (.int .u64 (tn (x0.hi))) rfl rfl (by intro x hx; have f0 := hx.load 0 1 rfl rfl; go_simp; all_goals exact rfl) ?_
    simp only [sA, sB]
    refine lv 2 (.pointer (some ⟨w.heap.size + 1, 1, none⟩)) rfl rfl (by intro x hx; go_simp; all_goals exact rfl) ?_
    simp only [sA, sB]
    refine lv 3 (.int .u64 (tn (x1.hi))) rfl rfl (by intro x hx; have f0 := hx.load 1 1 rfl rfl; go_simp; all_goals exact rfl) ?_
    simp only [sA, sB]
    refine lv 4 (.int .u64 (tn (x1.hi - 1#64))) rfl rfl (by intro x hx; go_simp; (first | done | exact subUT x1.hi 1#64 | exact congrArg _ (subUT x1.hi 1#64) | (rw [subUT x1.hi 1#64]; done) | (rw [subUT x1.hi 1#64]; rfl))) ?_
    simp only [sA, sB]
    refine lv 5 (.int .u64 (tn (minU x0.hi (x1.hi - 1#64)))) rfl rfl (by intro x hx; go_simp; (first | done | exact minUT x0.hi (x1.hi - 1#64))) ?_
    simp only [sA, sB]
    refine lv 6 (.agg #[.int .u64 0, .int .u64 (tn (minU x0.hi (x1.hi - 1#64)))]) rfl rfl (by intro x hx; go_simp; all_goals exact rfl) ?_
    simp only [sA, sB]
    refine ls 7 2 0 [.int .u64 0, .int .u64 (tn (minU x0.hi (x1.hi - 1#64)))] rfl rfl rfl (by intro x hx; obtain ⟨⟨_, z0, q0⟩, ⟨_, z1, q1⟩⟩ := hx.at2 2 0 rfl; go_simp; all_goals rfl) ?_
    simp only [Blk.putC, setM, sA, sB]
    clear HS
    refine ld fun W3 HS => ?_
    go_wp2
    obtain ⟨r0, r1⟩ := HS.out.two 2 0 rfl rfl
    have HF : span_Mod x0 x1 = P.mk 0#64 (minU x0.hi (x1.hi - 1#64)) := by
      unfold span_Mod
      rw [cond_f h1.out, cond_f h2.out, cond_f h3.out]
    exact bodyPost_ret (v := .agg #[.int .u64 0, .int .u64 (tn (minU x0.hi (x1.hi - 1#64)))]) (by simp [results, Tryz.results74, go_sem, r0, r1]) rfl ⟨(by first | (rw [HF]; done) | (rw [HF]; rfl)), HS.out.below⟩
   ·replace h3 := hid h3
    go_upto_region 4 with fail
    refine lnb HS.out rfl ?_
    refine lv 0 (.pointer (some ⟨w.heap.size, 1, none⟩)) rfl rfl (by intro x hx; go_simp; all_goals exact rfl) ?_
    simp only [sA, sB]
    refine lv 1 (.int .u64 (tn (x0.hi))) rfl rfl (by intro x hx; have f0 := hx.load 0 1 rfl rfl; go_simp; all_goals exact rfl) ?_
    simp only [sA, sB]
    refine lv 2 (.agg #[.int .u64 0, .int .u64 (tn (x0.hi))]) rfl rfl (by intro x hx; go_simp; all_goals exact rfl) ?_
    simp only [sA, sB]
    refine ls 3 2 0 [.int .u64 0, .int .u64 (tn (x0.hi))] rfl rfl rfl (by intro x hx; obtain ⟨⟨_, z0, q0⟩, ⟨_, z1, q1⟩⟩ := hx.at2 2 0 rfl; go_simp; all_goals rfl) ?_
    simp only [Blk.putC, setM, sA, sB]
    clear HS
    refine ld fun W3 HS => ?_
    go_wp2
    obtain ⟨r0, r1⟩ := HS.out.two 2 0 rfl rfl
    have HF : span_Mod x0 x1 = P.mk 0#64 x0.hi := by
      unfold span_Mod
      rw [cond_f h1.out, cond_f h2.out, cond_t h3.out]
    exact bodyPost_ret (v := .agg #[.int .u64 0, .int .u64 (tn (x0.hi))]) (by simp [results, Tryz.results74, go_sem, r0, r1]) rfl ⟨(by first | (rw [HF]; done) | (rw [HF]; rfl)), HS.out.below⟩
  ·replace h2 := hid h2
   go_upto_region 2 with fail
   refine lnb HS.out rfl ?_
   refine lv 0 (vU x0) rfl rfl (by intro x hx; obtain ⟨f0, f1⟩ := hx.two 0 0 rfl rfl; go_simp; all_goals exact rfl) ?_
   simp only [sA, sB, vU]
   refine ls 1 2 0 (cU x0) rfl rfl rfl (by intro x hx; obtain ⟨⟨_, z0, q0⟩, ⟨_, z1, q1⟩⟩ := hx.at2 2 0 rfl; go_simp; all_goals rfl) ?_
   simp only [Blk.putC, setM, cU, sA, sB]
   clear HS
   refine ld fun W2 HS => ?_
   go_wp2
   obtain ⟨r0, r1⟩ := HS.out.two 2 0 rfl rfl
   have HF : span_Mod x0 x1 = x0 := by
     unfold span_Mod
     rw [cond_f h1.out, cond_t h2.out]
   exact bodyPost_ret (v := vU x0) (by simp [results, Tryz.results74, go_sem, r0, r1, vU]) rfl ⟨(by first | (rw [HF]; done) | (rw [HF]; rfl)), HS.out.below⟩
 ·replace h1 := hid h1
  refine lin_no (i := 4) rfl rfl (by kernel_rfl) ?_
  simp only [sA, sB]
  refine lin_no (i := 5) rfl rfl (by kernel_rfl) ?_
  simp only [sA, sB]
  refine lin_no (i := 6) rfl rfl (by kernel_rfl) ?_
  simp only [sA, sB]
  refine lin_no (i := 7) rfl rfl (by kernel_rfl) ?_
  simp only [sA, sB]
  refine lin_no (i := 8) rfl rfl (by kernel_rfl) ?_
  simp only [sA, sB]
  refine lv 9 (.bool true) rfl rfl (by intro x hx; go_simp; all_goals exact rfl) ?_
  simp only [sA, sB]
  refine la 10 15 rfl rfl rfl rfl ?_
  simp only [sA, sB]
  clear HS
  refine ld fun W1 HS => ?_
  go_upto_region 2 with fail
  refine lnb HS.out rfl ?_
  refine lv 0 (vU x0) rfl rfl (by intro x hx; obtain ⟨f0, f1⟩ := hx.two 0 0 rfl rfl; go_simp; all_goals exact rfl) ?_
  simp only [sA, sB, vU]
  refine ls 1 2 0 (cU x0) rfl rfl rfl (by intro x hx; obtain ⟨⟨_, z0, q0⟩, ⟨_, z1, q1⟩⟩ := hx.at2 2 0 rfl; go_simp; all_goals rfl) ?_
  simp only [Blk.putC, setM, cU, sA, sB]
  clear HS
  refine ld fun W2 HS => ?_
  go_wp2
  obtain ⟨r0, r1⟩ := HS.out.two 2 0 rfl rfl
  have HF : span_Mod x0 x1 = x0 := by
    unfold span_Mod
    rw [cond_t h1.out]
  exact bodyPost_ret (v := vU x0) (by simp [results, Tryz.results74, go_sem, r0, r1, vU]) rfl ⟨(by first | (rw [HF]; done) | (rw [HF]; rfl)), HS.out.below⟩
def bits_Mul64 (x0 : BitVec 64) (x1 : BitVec 64)  : BitVec 64 × BitVec 64 :=
 ((((x0 >>> (32#64).toNat) * (x1 >>> (32#64).toNat)) + ((((x0 >>> (32#64).toNat) * (x1 &&& 4294967295#64)) + (((x0 &&& 4294967295#64) * (x1 &&& 4294967295#64)) >>> (32#64).toNat)) >>> (32#64).toNat)) + ((((((x0 >>> (32#64).toNat) * (x1 &&& 4294967295#64)) + (((x0 &&& 4294967295#64) * (x1 &&& 4294967295#64)) >>> (32#64).toNat)) &&& 4294967295#64) + ((x0 &&& 4294967295#64) * (x1 >>> (32#64).toNat))) >>> (32#64).toNat), x0 * x1)
theorem bits_Mul64_any (x0 : BitVec 64) (x1 : BitVec 64)   (w : World) :
  Calls Tryz.prog 116 #[.int .u64 (tn (x0)), .int .u64 (tn (x1))] w fun e w' => e = .returned (.tuple #[.int .u64 (tn ((bits_Mul64 x0 x1).1)), .int .u64 (tn ((bits_Mul64 x0 x1).2))]) ∧ Below w.heap.size w w' := by
 go_enter Tryz.func116, Tryz.ntmps116
 have HS : Hid (St w [] _) := hid (st_nil w)
 go_upto_region 1 with fail
 refine lnb HS.out rfl ?_
 refine lm 0 0 rfl rfl rfl rfl ?_
 simp only [sA, sB]
 refine lv 1 (.int .u64 (tn (x0 &&& 4294967295#64))) rfl rfl (by intro x hx; go_simp; (first | done | exact andUT x0 4294967295#64 | exact congrArg _ (andUT x0 4294967295#64) | (rw [andUT x0 4294967295#64]; done) | (rw [andUT x0 4294967295#64]; rfl))) ?_
 simp only [sA, sB]
 refine la 2 15 rfl rfl rfl rfl ?_
 simp only [sA, sB]
 clear HS
 refine ld fun W1 HS => ?_
 go_upto_region 2 with fail
 refine lnb HS.out rfl ?_
 refine lm 0 0 rfl rfl rfl rfl ?_
 simp only [sA, sB]
 refine lv 1 (.int .u64 (tn (x0 >>> (32#64).toNat))) rfl rfl (by intro x hx; have hy := tn_lo 32#64; go_simp; (first | done | exact shrUU x0 32#64 hy | exact congrArg _ (shrUU x0 32#64 hy) | (rw [shrUU x0 32#64 hy]; done) | (rw [shrUU x0 32#64 hy]; rfl))) ?_
 simp only [sA, sB]
 refine la 2 17 rfl rfl rfl rfl ?_
 simp only [sA, sB]
 clear HS
 refine ld fun W2 HS => ?_
 go_upto_region 3 with fail
 refine lnb HS.out rfl ?_
 refine lm 0 1 rfl rfl rfl rfl ?_
 simp only [sA, sB]
 refine lv 1 (.int .u64 (tn (x1 &&& 4294967295#64))) rfl rfl (by intro x hx; go_simp; (first | done | exact andUT x1 4294967295#64 | exact congrArg _ (andUT x1 4294967295#64) | (rw [andUT x1 4294967295#64]; done) | (rw [andUT x1 4294967295#64]; rfl))) ?_
 simp only [sA, sB]
 refine la 2 19 rfl rfl rfl rfl ?_
 simp only [sA, sB]
 clear HS
 refine ld fun W3 HS => ?_
 go_upto_region 4 with fail
 refine lnb HS.out rfl ?_
 refine lm 0 1 rfl rfl rfl rfl ?_
 simp only [sA, sB]
 refine lv 1 (.int .u64 (tn (x1 >>> (32#64).toNat))) rfl rfl (by intro x hx; have hy := tn_lo 32#64; go_simp; (first | done | exact shrUU x1 32#64 hy | exact congrArg _ (shrUU x1 32#64 hy) | (rw [shrUU x1 32#64 hy]; done) | (rw [shrUU x1 32#64 hy]; rfl))) ?_
 simp only [sA, sB]
 refine la 2 21 rfl rfl rfl rfl ?_
 simp only [sA, sB]
 clear HS
 refine ld fun W4 HS => ?_
 go_upto_region 5 with fail
 refine lnb HS.out rfl ?_
 refine lm 0 6 rfl rfl rfl rfl ?_
 simp only [sA, sB]
 refine lm 1 8 rfl rfl rfl rfl ?_
 simp only [sA, sB]
 refine lv 2 (.int .u64 (tn ((x0 &&& 4294967295#64) * (x1 &&& 4294967295#64)))) rfl rfl (by intro x hx; go_simp; (first | done | exact mulUT (x0 &&& 4294967295#64) (x1 &&& 4294967295#64) | exact congrArg _ (mulUT (x0 &&& 4294967295#64) (x1 &&& 4294967295#64)) | (rw [mulUT (x0 &&& 4294967295#64) (x1 &&& 4294967295#64)]; done) | (rw [mulUT (x0 &&& 4294967295#64) (x1 &&& 4294967295#64)]; rfl))) ?_
 simp only [sA, sB]
 refine la 3 24 rfl rfl rfl rfl ?_
 simp only [sA, sB]
 clear HS
 refine ld fun W5 HS => ?_
 go_upto_region 6 with fail
 refine lnb HS.out rfl ?_
 refine lm 0 7 rfl rfl rfl rfl ?_
 simp only [sA, sB]
 refine lm 1 8 rfl rfl rfl rfl ?_
 simp only [sA, sB]
 refine lv 2 (.int .u64 (tn ((x0 >>> (32#64).toNat) * (x1 &&& 4294967295#64)))) rfl rfl (by intro x hx; go_simp; (first | done | exact mulUT (x0 >>> (32#64).toNat) (x1 &&& 4294967295#64) | exact congrArg _ (mulUT (x0 >>> (32#64).toNat) (x1 &&& 4294967295#64)) | (rw [mulUT (x0 >>> (32#64).toNat) (x1 &&& 4294967295#64)]; done) | (rw [mulUT (x0 >>> (32#64).toNat) (x1 &&& 4294967295#64)]; rfl))) ?_
 simp only [sA, sB]
 refine lm 3 10 rfl rfl rfl rfl ?_
 simp only [sA, sB]
 refine lv 4 (.int .u64 (tn (((x0 &&& 4294967295#64) * (x1 &&& 4294967295#64)) >>> (32#64).toNat))) rfl rfl (by intro x hx; have hy := tn_lo 32#64; go_simp; (first | done | exact shrUU ((x0 &&& 4294967295#64) * (x1 &&& 4294967295#64)) 32#64 hy | exact congrArg _ (shrUU ((x0 &&& 4294967295#64) * (x1 &&& 4294967295#64)) 32#64 hy) | (rw [shrUU ((x0 &&& 4294967295#64) * (x1 &&& 4294967295#64)) 32#64 hy]; done) | (rw [shrUU ((x0 &&& 4294967295#64) * (x1 &&& 4294967295#64)) 32#64 hy]; rfl))) ?_
 simp only [sA, sB]
 refine lv 5 (.int .u64 (tn (((x0 >>> (32#64).toNat) * (x1 &&& 4294967295#64)) + (((x0 &&& 4294967295#64) * (x1 &&& 4294967295#64)) >>> (32#64).toNat)))) rfl rfl (by intro x hx; go_simp; (first | done | exact addUT ((x0 >>> (32#64).toNat) * (x1 &&& 4294967295#64)) (((x0 &&& 4294967295#64) * (x1 &&& 4294967295#64)) >>> (32#64).toNat) | exact congrArg _ (addUT ((x0 >>> (32#64).toNat) * (x1 &&& 4294967295#64)) (((x0 &&& 4294967295#64) * (x1 &&& 4294967295#64)) >>> (32#64).toNat)) | (rw [addUT ((x0 >>> (32#64).toNat) * (x1 &&& 4294967295#64)) (((x0 &&& 4294967295#64) * (x1 &&& 4294967295#64)) >>> (32#64).toNat)]; done) | (rw [addUT ((x0 >>> (32#64).toNat) * (x1 &&& 4294967295#64)) (((x0 &&& 4294967295#64) * (x1 &&& 4294967295#64)) >>> (32#64).toNat)]; rfl))) ?_
 simp only [sA, sB]
 refine la 6 30 rfl rfl rfl rfl ?_
 simp only [sA, sB]
 clear HS
 refine ld fun W6 HS => ?_
 go_upto_region 7 with fail
 refine lnb HS.out rfl ?_
 refine lm 0 11 rfl rfl rfl rfl ?_
 simp only [sA, sB]
 refine lv 1 (.int .u64 (tn ((((x0 >>> (32#64).toNat) * (x1 &&& 4294967295#64)) + (((x0 &&& 4294967295#64) * (x1 &&& 4294967295#64)) >>> (32#64).toNat)) &&& 4294967295#64))) rfl rfl (by intro x hx; go_simp; (first | done | exact andUT (((x0 >>> (32#64).toNat) * (x1 &&& 4294967295#64)) + (((x0 &&& 4294967295#64) * (x1 &&& 4294967295#64)) >>> (32#64).toNat)) 4294967295#64 | exact congrArg _ (andUT (((x0 >>> (32#64).toNat) * (x1 &&& 4294967295#64)) + (((x0 &&& 4294967295#64) * (x1 &&& 4294967295#64)) >>> (32#64).toNat)) 4294967295#64) | (rw [andUT (((x0 >>> (32#64).toNat) * (x1 &&& 4294967295#64)) + (((x0 &&& 4294967295#64) * (x1 &&& 4294967295#64)) >>> (32#64).toNat)) 4294967295#64]; done) | (rw [andUT (((x0 >>> (32#64).toNat) * (x1 &&& 4294967295#64)) + (((x0 &&& 4294967295#64) * (x1 &&& 4294967295#64)) >>> (32#64).toNat)) 4294967295#64]; rfl))) ?_
 simp only [sA, sB]
 refine la 2 32 rfl rfl rfl rfl ?_
 simp only [sA, sB]
 clear HS
 refine ld fun W7 HS => ?_
 go_upto_region 8 with fail
 refine lnb HS.out rfl ?_
 refine lm 0 11 rfl rfl rfl rfl ?_
 simp only [sA, sB]
 refine lv 1 (.int .u64 (tn ((((x0 >>> (32#64).toNat) * (x1 &&& 4294967295#64)) + (((x0 &&& 4294967295#64) * (x1 &&& 4294967295#64)) >>> (32#64).toNat)) >>> (32#64).toNat))) rfl rfl (by intro x hx; have hy := tn_lo 32#64; go_simp; (first | done | exact shrUU (((x0 >>> (32#64).toNat) * (x1 &&& 4294967295#64)) + (((x0 &&& 4294967295#64) * (x1 &&& 4294967295#64)) >>> (32#64).toNat)) 32#64 hy | exact congrArg _ (shrUU (((x0 >>> (32#64).toNat) * (x1 &&& 4294967295#64)) + (((x0 &&& 4294967295#64) * (x1 &&& 4294967295#64)) >>> (32#64).toNat)) 32#64 hy) | (rw [shrUU (((x0 >>> (32#64).toNat) * (x1 &&& 4294967295#64)) + (((x0 &&& 4294967295#64) * (x1 &&& 4294967295#64)) >>> (32#64).toNat)) 32#64 hy]; done) | (rw [shrUU (((x0 >>> (32#64).toNat) * (x1 &&& 4294967295#64)) + (((x0 &&& 4294967295#64) * (x1 &&& 4294967295#64)) >>> (32#64).toNat)) 32#64 hy]; rfl))) ?_
 simp only [sA, sB]
 refine la 2 34 rfl rfl rfl rfl ?_
 simp only [sA, sB]
 clear HS
 refine ld fun W8 HS => ?_
 go_upto_region 9 with fail
 refine lnb HS.out rfl ?_
 refine lm 0 12 rfl rfl rfl rfl ?_
 simp only [sA, sB]
 refine lm 1 6 rfl rfl rfl rfl ?_
 simp only [sA, sB]
 refine lm 2 9 rfl rfl rfl rfl ?_
 simp only [sA, sB]
 refine lv 3 (.int .u64 (tn ((x0 &&& 4294967295#64) * (x1 >>> (32#64).toNat)))) rfl rfl (by intro x hx; go_simp; (first | done | exact mulUT (x0 &&& 4294967295#64) (x1 >>> (32#64).toNat) | exact congrArg _ (mulUT (x0 &&& 4294967295#64) (x1 >>> (32#64).toNat)) | (rw [mulUT (x0 &&& 4294967295#64) (x1 >>> (32#64).toNat)]; done) | (rw [mulUT (x0 &&& 4294967295#64) (x1 >>> (32#64).toNat)]; rfl))) ?_
 simp only [sA, sB]
 refine lv 4 (.int .u64 (tn (((((x0 >>> (32#64).toNat) * (x1 &&& 4294967295#64)) + (((x0 &&& 4294967295#64) * (x1 &&& 4294967295#64)) >>> (32#64).toNat)) &&& 4294967295#64) + ((x0 &&& 4294967295#64) * (x1 >>> (32#64).toNat))))) rfl rfl (by intro x hx; go_simp; (first | done | exact addUT ((((x0 >>> (32#64).toNat) * (x1 &&& 4294967295#64)) + (((x0 &&& 4294967295#64) * (x1 &&& 4294967295#64)) >>> (32#64).toNat)) &&& 4294967295#64) ((x0 &&& 4294967295#64) * (x1 >>> (32#64).toNat)) | exact congrArg _ (addUT ((((x0 >>> (32#64).toNat) * (x1 &&& 4294967295#64)) + (((x0 &&& 4294967295#64) * (x1 &&& 4294967295#64)) >>> (32#64).toNat)) &&& 4294967295#64) ((x0 &&& 4294967295#64) * (x1 >>> (32#64).toNat))) | (rw [addUT ((((x0 >>> (32#64).toNat) * (x1 &&& 4294967295#64)) + (((x0 &&& 4294967295#64) * (x1 &&& 4294967295#64)) >>> (32#64).toNat)) &&& 4294967295#64) ((x0 &&& 4294967295#64) * (x1 >>> (32#64).toNat))]; done) | (rw [addUT ((((x0 >>> (32#64).toNat) * (x1 &&& 4294967295#64)) + (((x0 &&& 4294967295#64) * (x1 &&& 4294967295#64)) >>> (32#64).toNat)) &&& 4294967295#64) ((x0 &&& 4294967295#64) * (x1 >>> (32#64).toNat))]; rfl))) ?_
 simp only [sA, sB]
 refine la 5 39 rfl rfl rfl rfl ?_
 simp only [sA, sB]
 clear HS
 refine ld fun W9 HS => ?_
 go_upto_region 10 with fail
 refine lnb HS.out rfl ?_
 refine lm 0 7 rfl rfl rfl rfl ?_
 simp only [sA, sB]
 refine lm 1 9 rfl rfl rfl rfl ?_
 simp only [sA, sB]
 refine lv 2 (.int .u64 (tn ((x0 >>> (32#64).toNat) * (x1 >>> (32#64).toNat)))) rfl rfl (by intro x hx; go_simp; (first | done | exact mulUT (x0 >>> (32#64).toNat) (x1 >>> (32#64).toNat) | exact congrArg _ (mulUT (x0 >>> (32#64).toNat) (x1 >>> (32#64).toNat)) | (rw [mulUT (x0 >>> (32#64).toNat) (x1 >>> (32#64).toNat)]; done) | (rw [mulUT (x0 >>> (32#64).toNat) (x1 >>> (32#64).toNat)]; rfl))) ?_
 simp only [sA, sB]
 refine lm 3 13 rfl rfl rfl rfl ?_
 simp only [sA, sB]
 refine lv 4 (.int .u64 (tn (((x0 >>> (32#64).toNat) * (x1 >>> (32#64).toNat)) + ((((x0 >>> (32#64).toNat) * (x1 &&& 4294967295#64)) + (((x0 &&& 4294967295#64) * (x1 &&& 4294967295#64)) >>> (32#64).toNat)) >>> (32#64).toNat)))) rfl rfl (by intro x hx; go_simp; (first | done | exact addUT ((x0 >>> (32#64).toNat) * (x1 >>> (32#64).toNat)) ((((x0 >>> (32#64).toNat) * (x1 &&& 4294967295#64)) + (((x0 &&& 4294967295#64) * (x1 &&& 4294967295#64)) >>> (32#64).toNat)) >>> (32#64).toNat) | exact congrArg _ (addUT ((x0 >>> (32#64).toNat) * (x1 >>> (32#64).toNat)) ((((x0 >>> (32#64).toNat) * (x1 &&& 4294967295#64)) + (((x0 &&& 4294967295#64) * (x1 &&& 4294967295#64)) >>> (32#64).toNat)) >>> (32#64).toNat)) | (rw [addUT ((x0 >>> (32#64).toNat) * (x1 >>> (32#64).toNat)) ((((x0 >>> (32#64).toNat) * (x1 &&& 4294967295#64)) + (((x0 &&& 4294967295#64) * (x1 &&& 4294967295#64)) >>> (32#64).toNat)) >>> (32#64).toNat)]; done) | (rw [addUT ((x0 >>> (32#64).toNat) * (x1 >>> (32#64).toNat)) ((((x0 >>> (32#64).toNat) * (x1 &&& 4294967295#64)) + (((x0 &&& 4294967295#64) * (x1 &&& 4294967295#64)) >>> (32#64).toNat)) >>> (32#64).toNat)]; rfl))) ?_
 simp only [sA, sB]
 refine lm 5 12 rfl rfl rfl rfl ?_
 simp only [sA, sB]
 refine lv 6 (.int .u64 (tn ((((((x0 >>> (32#64).toNat) * (x1 &&& 4294967295#64)) + (((x0 &&& 4294967295#64) * (x1 &&& 4294967295#64)) >>> (32#64).toNat)) &&& 4294967295#64) + ((x0 &&& 4294967295#64) * (x1 >>> (32#64).toNat))) >>> (32#64).toNat))) rfl rfl (by intro x hx; have hy := tn_lo 32#64; go_simp; (first | done | exact shrUU (((((x0 >>> (32#64).toNat) * (x1 &&& 4294967295#64)) + (((x0 &&& 4294967295#64) * (x1 &&& 4294967295#64)) >>> (32#64).toNat)) &&& 4294967295#64) + ((x0 &&& 4294967295#64) * (x1 >>> (32#64).toNat))) 32#64 hy | exact congrArg _ (shrUU (((((x0 >>> (32#64).toNat) * (x1 &&& 4294967295#64)) + (((x0 &&& 4294967295#64) * (x1 &&& 4294967295#64)) >>> (32#64).toNat)) &&& 4294967295#64) + ((x0 &&& 4294967295#64) * (x1 >>> (32#64).toNat))) 32#64 hy) | (rw [shrUU (((((x0 >>> (32#64).toNat) * (x1 &&& 4294967295#64)) + (((x0 &&& 4294967295#64) * (x1 &&& 4294967295#64)) >>> (32#64).toNat)) &&& 4294967295#64) + ((x0 &&& 4294967295#64) * (x1 >>> (32#64).toNat))) 32#64 hy]; done) | (rw [shrUU (((((x0 >>> (32#64).toNat) * (x1 &&& 4294967295#64)) + (((x0 &&& 4294967295#64) * (x1 &&& 4294967295#64)) >>> (32#64).toNat)) &&& 4294967295#64) + ((x0 &&& 4294967295#64) * (x1 >>> (32#64).toNat))) 32#64 hy]; rfl))) ?_
 simp only [sA, sB]
 refine lv 7 (.int .u64 (tn ((((x0 >>> (32#64).toNat) * (x1 >>> (32#64).toNat)) + ((((x0 >>> (32#64).toNat) * (x1 &&& 4294967295#64)) + (((x0 &&& 4294967295#64) * (x1 &&& 4294967295#64)) >>> (32#64).toNat)) >>> (32#64).toNat)) + ((((((x0 >>> (32#64).toNat) * (x1 &&& 4294967295#64)) + (((x0 &&& 4294967295#64) * (x1 &&& 4294967295#64)) >>> (32#64).toNat)) &&& 4294967295#64) + ((x0 &&& 4294967295#64) * (x1 >>> (32#64).toNat))) >>> (32#64).toNat)))) rfl rfl (by intro x hx; go_simp; (first | done | exact addUT (((x0 >>> (32#64).toNat) * (x1 >>> (32#64).toNat)) + ((((x0 >>> (32#64).toNat) * (x1 &&& 4294967295#64)) + (((x0 &&& 4294967295#64) * (x1 &&& 4294967295#64)) >>> (32#64).toNat)) >>> (32#64).toNat)) ((((((x0 >>> (32#64).toNat) * (x1 &&& 4294967295#64)) + (((x0 &&& 4294967295#64) * (x1 &&& 4294967295#64)) >>> (32#64).toNat)) &&& 4294967295#64) + ((x0 &&& 4294967295#64) * (x1 >>> (32#64).toNat))) >>> (32#64).toNat) | exact congrArg _ (addUT (((x0 >>> (32#64).toNat) * (x1 >>> (32#64).toNat)) + ((((x0 >>> (32#64).toNat) * (x1 &&& 4294967295#64)) + (((x0 &&& 4294967295#64) * (x1 &&& 4294967295#64)) >>> (32#64).toNat)) >>> (32#64).toNat)) ((((((x0 >>> (32#64).toNat) * (x1 &&& 4294967295#64)) + (((x0 &&& 4294967295#64) * (x1 &&& 4294967295#64)) >>> (32#64).toNat)) &&& 4294967295#64) + ((x0 &&& 4294967295#64) * (x1 >>> (32#64).toNat))) >>> (32#64).toNat)) | (rw [addUT (((x0 >>> (32#64).toNat) * (x1 >>> (32#64).toNat)) + ((((x0 >>> (32#64).toNat) * (x1 &&& 4294967295#64)) + (((x0 &&& 4294967295#64) * (x1 &&& 4294967295#64)) >>> (32#64).toNat)) >>> (32#64).toNat)) ((((((x0 >>> (32#64).toNat) * (x1 &&& 4294967295#64)) + (((x0 &&& 4294967295#64) * (x1 &&& 4294967295#64)) >>> (32#64).toNat)) &&& 4294967295#64) + ((x0 &&& 4294967295#64) * (x1 >>> (32#64).toNat))) >>> (32#64).toNat)]; done) | (rw [addUT (((x0 >>> (32#64).toNat) * (x1 >>> (32#64).toNat)) + ((((x0 >>> (32#64).toNat) * (x1 &&& 4294967295#64)) + (((x0 &&& 4294967295#64) * (x1 &&& 4294967295#64)) >>> (32#64).toNat)) >>> (32#64).toNat)) ((((((x0 >>> (32#64).toNat) * (x1 &&& 4294967295#64)) + (((x0 &&& 4294967295#64) * (x1 &&& 4294967295#64)) >>> (32#64).toNat)) &&& 4294967295#64) + ((x0 &&& 4294967295#64) * (x1 >>> (32#64).toNat))) >>> (32#64).toNat)]; rfl))) ?_
 simp only [sA, sB]
 refine la 8 47 rfl rfl rfl rfl ?_
 simp only [sA, sB]
 clear HS
 refine ld fun W10 HS => ?_
 go_upto_region 11 with fail
 refine lnb HS.out rfl ?_
 refine lm 0 0 rfl rfl rfl rfl ?_
 simp only [sA, sB]
 refine lm 1 1 rfl rfl rfl rfl ?_
 simp only [sA, sB]
 refine lv 2 (.int .u64 (tn (x0 * x1))) rfl rfl (by intro x hx; go_simp; (first | done | exact mulUT x0 x1 | exact congrArg _ (mulUT x0 x1) | (rw [mulUT x0 x1]; done) | (rw [mulUT x0 x1]; rfl))) ?_
 simp only [sA, sB]
 refine la 3 50 rfl rfl rfl rfl ?_
 simp only [sA, sB]
 clear HS
 refine ld fun W11 HS => ?_
 go_wp2
 have HF : bits_Mul64 x0 x1 = ((((x0 >>> (32#64).toNat) * (x1 >>> (32#64).toNat)) + ((((x0 >>> (32#64).toNat) * (x1 &&& 4294967295#64)) + (((x0 &&& 4294967295#64) * (x1 &&& 4294967295#64)) >>> (32#64).toNat)) >>> (32#64).toNat)) + ((((((x0 >>> (32#64).toNat) * (x1 &&& 4294967295#64)) + (((x0 &&& 4294967295#64) * (x1 &&& 4294967295#64)) >>> (32#64).toNat)) &&& 4294967295#64) + ((x0 &&& 4294967295#64) * (x1 >>> (32#64).toNat))) >>> (32#64).toNat), x0 * x1) := by
  unfold bits_Mul64
  rfl
 exact bodyPost_ret (v := .tuple #[.int .u64 (tn ((((x0 >>> (32#64).toNat) * (x1 >>> (32#64).toNat)) + ((((x0 >>> (32#64).toNat) * (x1 &&& 4294967295#64)) + (((x0 &&& 4294967295#64) * (x1 &&& 4294967295#64)) >>> (32#64).toNat)) >>> (32#64).toNat)) + ((((((x0 >>> (32#64).toNat) * (x1 &&& 4294967295#64)) + (((x0 &&& 4294967295#64) * (x1 &&& 4294967295#64)) >>> (32#64).toNat)) &&& 4294967295#64) + ((x0 &&& 4294967295#64) * (x1 >>> (32#64).toNat))) >>> (32#64).toNat))), .int .u64 (tn (x0 * x1))]) (by simp [results, Tryz.results116, go_sem]) rfl ⟨(by first | (rw [HF]; done) | (rw [HF]; rfl)), HS.out.below⟩
theorem span_And_any (x0 : P) (x1 : P)   (w : World) :
  Calls Tryz.prog 68 #[vU x0, vU x1] w fun e w' => e = .returned (vU (P.mk 0#64 (minU x0.hi x1.hi))) ∧ Below w.heap.size w w' := by
 simp only [vU]
 go_enter Tryz.func68, Tryz.ntmps68
 have HS : Hid (St w [⟨w.heap.size, [some (.int .u64 (tn (x0.lo))), some (.int .u64 (tn (x0.hi)))], 27⟩, ⟨w.heap.size + 1, [some (.int .u64 (tn (x1.lo))), some (.int .u64 (tn (x1.hi)))], 27⟩, ⟨w.heap.size + 2, [some (.int .u64 0), some (.int .u64 0)], 27⟩] _) := hid ((((st_nil w).alloc (k := w.heap.size) rfl [.int .u64 (tn (x0.lo)), .int .u64 (tn (x0.hi))] 27).alloc (k := w.heap.size + 1) (by simp) [.int .u64 (tn (x1.lo)), .int .u64 (tn (x1.hi))] 27).alloc (k := w.heap.size + 2) (by simp) [.int .u64 0, .int .u64 0] 27)
 go_upto_region 1 with fail
 refine lnb HS.out rfl ?_
 refine lv 0 (.pointer (some ⟨w.heap.size, 1, none⟩)) rfl rfl (by intro x hx; go_simp; all_goals exact rfl) ?_
 simp only [sA, sB]
 refine lv 1 (.int .u64 (tn (x0.hi))) rfl rfl (by intro x hx; have f0 := hx.load 0 1 rfl rfl; go_simp; all_goals exact rfl) ?_
 simp only [sA, sB]
 refine lv 2 (.pointer (some ⟨w.heap.size + 1, 1, none⟩)) rfl rfl (by intro x hx; go_simp; all_goals exact rfl) ?_
 simp only [sA, sB]
 refine lv 3 (.int .u64 (tn (x1.hi))) rfl rfl (by intro x hx; have f0 := hx.load 1 1 rfl rfl; go_simp; all_goals exact rfl) ?_
 simp only [sA, sB]
 refine lv 4 (.int .u64 (tn (minU x0.hi x1.hi))) rfl rfl (by intro x hx; go_simp; (first | done | exact minUT x0.hi x1.hi)) ?_
 simp only [sA, sB]
 refine lv 5 (.agg #[.int .u64 0, .int .u64 (tn (minU x0.hi x1.hi))]) rfl rfl (by intro x hx; go_simp; all_goals exact rfl) ?_
 simp only [sA, sB]
 refine ls 6 2 0 [.int .u64 0, .int .u64 (tn (minU x0.hi x1.hi))] rfl rfl rfl (by intro x hx; obtain ⟨⟨_, z0, q0⟩, ⟨_, z1, q1⟩⟩ := hx.at2 2 0 rfl; go_simp; all_goals rfl) ?_
 simp only [Blk.putC, setM, sA, sB]
 clear HS
 refine ld fun W1 HS => ?_
 go_wp2
 obtain ⟨r0, r1⟩ := HS.out.two 2 0 rfl rfl
 exact bodyPost_ret (v := .agg #[.int .u64 0, .int .u64 (tn (minU x0.hi x1.hi))]) (by simp [results, Tryz.results68, go_sem, r0, r1]) rfl ⟨rfl, HS.out.below⟩
def span_Mul (x0 : P) (x1 : P)  : P :=
 bif (((bits_Mul64 x0.hi x1.hi).1) != 0#64) then (P.mk 0#64 18446744073709551615#64) else (P.mk (x0.lo * x1.lo) ((bits_Mul64 x0.hi x1.hi).2))
theorem span_Mul_any (x0 : P) (x1 : P)   (w : World) :
   Calls Tryz.prog 66 #[vU x0, vU x1] w fun e w' => e = .returned (vU (span_Mul x0 x1)) ∧ Below w.heap.size w w' := by
 simp only [vU]
 go_enter Tryz.func66, Tryz.ntmps66
 have HS : Hid (St w [⟨w.heap.size, [some (.int .u64 (tn (x0.lo))), some (.int .u64 (tn (x0.hi)))], 27⟩, ⟨w.heap.size + 1, [some (.int .u64 (tn (x1.lo))), some (.int .u64 (tn (x1.hi)))], 27⟩, ⟨w.heap.size + 2, [some (.int .u64 0), some (.int .u64 0)], 27⟩] _) := hid ((((st_nil w).alloc (k := w.heap.size) rfl [.int .u64 (tn (x0.lo)), .int .u64 (tn (x0.hi))] 27).alloc (k := w.heap.size + 1) (by simp) [.int .u64 (tn (x1.lo)), .int .u64 (tn (x1.hi))] 27).alloc (k := w.heap.size + 2) (by simp) [.int .u64 0, .int .u64 0] 27)
 go_upto_region 1 with fail
 refine lnb HS.out rfl ?_
 refine lv 0 (.pointer (some ⟨w.heap.size, 1, none⟩)) rfl rfl (by intro x hx; go_simp; all_goals exact rfl) ?_
 simp only [sA, sB]
 refine lv 1 (.int .u64 (tn (x0.hi))) rfl rfl (by intro x hx; have f0 := hx.load 0 1 rfl rfl; go_simp; all_goals exact rfl) ?_
 simp only [sA, sB]
 refine lv 2 (.pointer (some ⟨w.heap.size + 1, 1, none⟩)) rfl rfl (by intro x hx; go_simp; all_goals exact rfl) ?_
 simp only [sA, sB]
 refine lv 3 (.int .u64 (tn (x1.hi))) rfl rfl (by intro x hx; have f0 := hx.load 1 1 rfl rfl; go_simp; all_goals exact rfl) ?_
 simp only [sA, sB]
 refine lc 4 116 #[.int .u64 (tn (x0.hi)), .int .u64 (tn (x1.hi))] (.tuple #[.int .u64 (tn ((bits_Mul64 x0.hi x1.hi).1)), .int .u64 (tn ((bits_Mul64 x0.hi x1.hi).2))]) rfl rfl (by intro x hx; exact bits_Mul64_any x0.hi x1.hi _) ?_
 simp only [sA, sB]
 refine lm 5 12 rfl rfl rfl rfl ?_
 simp only [sA, sB]
 refine lv 6 (.int .u64 (tn ((bits_Mul64 x0.hi x1.hi).1))) rfl rfl (by intro x hx; go_simp; all_goals exact rfl) ?_
 simp only [sA, sB]
 refine lv 7 (.int .u64 (tn ((bits_Mul64 x0.hi x1.hi).2))) rfl rfl (by intro x hx; go_simp; all_goals exact rfl) ?_
 simp only [sA, sB]
 refine la 8 13 rfl rfl rfl rfl ?_
 simp only [sA, sB]
 refine la 9 14 rfl rfl rfl rfl ?_
 simp only [sA, sB]
 clear HS
 refine ld fun W1 HS => ?_
 go_upto_region 2 with fail
 refine lnb HS.out rfl ?_
 refine lm 0 5 rfl rfl rfl rfl ?_
 simp only [sA, sB]
 refine lv 1 (.bool ((((bits_Mul64 x0.hi x1.hi).1) != 0#64))) rfl rfl (by intro x hx; go_simp; (first | done | exact neUT ((bits_Mul64 x0.hi x1.hi).1) 0#64 | exact congrArg _ (neUT ((bits_Mul64 x0.hi x1.hi).1) 0#64) | (rw [neUT ((bits_Mul64 x0.hi x1.hi).1) 0#64]; done) | (rw [neUT ((bits_Mul64 x0.hi x1.hi).1) 0#64]; rfl))) ?_
 simp only [sA, sB]
 clear HS
 refine ld fun W2 HS => ?_
 cases h1 : ((((bits_Mul64 x0.hi x1.hi).1) != 0#64))
 ·replace h1 := hid h1
  go_upto_region 4 with fail
  refine lnb HS.out rfl ?_
  refine lv 0 (.pointer (some ⟨w.heap.size, 0, none⟩)) rfl rfl (by intro x hx; go_simp; all_goals exact rfl) ?_
  simp only [sA, sB]
  refine lv 1 (.int .u64 (tn (x0.lo))) rfl rfl (by intro x hx; have f0 := hx.load 0 0 rfl rfl; go_simp; all_goals exact rfl) ?_
  simp only [sA, sB]
  refine lv 2 (.pointer (some ⟨w.heap.size + 1, 0, none⟩)) rfl rfl (by intro x hx; go_simp; all_goals exact rfl) ?_
  simp only [sA, sB]
  refine lv 3 (.int .u64 (tn (x1.lo))) rfl rfl (by intro x hx; have f0 := hx.load 1 0 rfl rfl; go_simp; all_goals exact rfl) ?_
  simp only [sA, sB]
  refine lv 4 (.int .u64 (tn (x0.lo * x1.lo))) rfl rfl (by intro x hx; go_simp; (first | done | exact mulUT x0.lo x1.lo | exact congrArg _ (mulUT x0.lo x1.lo) | (rw [mulUT x0.lo x1.lo]; done) | (rw [mulUT x0.lo x1.lo]; rfl))) ?_
  simp only [sA, sB]
  refine lm 5 6 rfl rfl rfl rfl ?_
  simp only [sA, sB]
  refine lv 6 (vU (P.mk (x0.lo * x1.lo) ((bits_Mul64 x0.hi x1.hi).2))) rfl rfl (by intro x hx; go_simp; all_goals exact rfl) ?_
  simp only [sA, sB, vU]
  refine ls 7 2 0 (cU (P.mk (x0.lo * x1.lo) ((bits_Mul64 x0.hi x1.hi).2))) rfl rfl rfl (by intro x hx; obtain ⟨⟨_, z0, q0⟩, ⟨_, z1, q1⟩⟩ := hx.at2 2 0 rfl; go_simp; all_goals rfl) ?_
  simp only [Blk.putC, setM, cU, sA, sB]
  clear HS
  refine ld fun W3 HS => ?_
  go_wp2
  obtain ⟨r0, r1⟩ := HS.out.two 2 0 rfl rfl
  have HF : span_Mul x0 x1 = P.mk (x0.lo * x1.lo) ((bits_Mul64 x0.hi x1.hi).2) := by
    unfold span_Mul
    rw [cond_f h1.out]
  exact bodyPost_ret (v := vU (P.mk (x0.lo * x1.lo) ((bits_Mul64 x0.hi x1.hi).2))) (by simp [results, Tryz.results66, go_sem, r0, r1, vU]) rfl ⟨(by first | (rw [HF]; done) | (rw [HF]; rfl)), HS.out.below⟩
 ·replace h1 := hid h1
  go_upto_region 3 with fail
  refine lnb HS.out rfl ?_
  refine lc 0 28 #[] (vU (P.mk 0#64 18446744073709551615#64)) rfl rfl (by intro x hx; exact span_All_any _) ?_
  simp only [sA, sB, vU]
  refine ls 1 2 0 (cU (P.mk 0#64 18446744073709551615#64)) rfl rfl rfl (by intro x hx; obtain ⟨⟨_, z0, q0⟩, ⟨_, z1, q1⟩⟩ := hx.at2 2 0 rfl; go_simp; all_goals rfl) ?_
  simp only [Blk.putC, setM, cU, sA, sB]
  clear HS
  refine ld fun W3 HS => ?_
  go_wp2
  obtain ⟨r0, r1⟩ := HS.out.two 2 0 rfl rfl
  have HF : span_Mul x0 x1 = P.mk 0#64 18446744073709551615#64 := by
    unfold span_Mul
    rw [cond_t h1.out]
  exact bodyPost_ret (v := vU (P.mk 0#64 18446744073709551615#64)) (by simp [results, Tryz.results66, go_sem, r0, r1, vU]) rfl ⟨(by first | (rw [HF]; done) | (rw [HF]; rfl)), HS.out.below⟩
theorem span_Lsh_any (x0 : P) (x1 : BitVec 64)   (w : World) :
  Calls Tryz.prog 118 #[vU x0, .int .i64 (ti (x1))] w fun e w' => e = .returned (vU (span_Mul x0 (P.mk (1#64 <<< (x1 % 64#64).toNat) (1#64 <<< (x1 % 64#64).toNat)))) ∧ Below w.heap.size w w' := by
 simp only [vU]
 go_enter Tryz.func118, Tryz.ntmps118
 have HS : Hid (St w [⟨w.heap.size, [some (.int .u64 (tn (x0.lo))), some (.int .u64 (tn (x0.hi)))], 27⟩, ⟨w.heap.size + 1, [some (.int .u64 0), some (.int .u64 0)], 27⟩] _) := hid (((st_nil w).alloc (k := w.heap.size) rfl [.int .u64 (tn (x0.lo)), .int .u64 (tn (x0.hi))] 27).alloc (k := w.heap.size + 1) (by simp) [.int .u64 0, .int .u64 0] 27)
 go_upto_region 1 with fail
 refine upb 7 (HS.out.drew.forget 1 0 2 rfl) rfl ?_
 simp only [Blk.dropC, noneM, sA, sB]
 refine tv 0 (vU x0) rfl rfl (by intro x hx; obtain ⟨f0, f1⟩ := hx.two 0 0 rfl rfl; go_simp; all_goals exact rfl) ?_
 simp only [sA, sB, vU]
 refine tm 1 1 rfl rfl rfl rfl ?_
 simp only [sA, sB]
 refine tc 2 134 #[.int .i64 (ti (x1))] (.int .u64 (tn (x1 % 64#64))) rfl rfl (by intro x hx; exact span_count_any x1 _) ?_
 simp only [sA, sB]
 refine tv 3 (.int .u64 (tn (1#64 <<< (x1 % 64#64).toNat))) rfl rfl (by intro x hx; have hy := tn_lo (x1 % 64#64); go_simp; (first | done | exact shl1U (x1 % 64#64) hy | exact shlUUr 1#64 (x1 % 64#64) hy | exact shlUU 1#64 (x1 % 64#64) hy | exact congrArg _ (shlUU 1#64 (x1 % 64#64) hy) | (rw [shlUU 1#64 (x1 % 64#64) hy]; done) | (rw [shlUU 1#64 (x1 % 64#64) hy]; rfl))) ?_
 simp only [sA, sB]
 refine tc 4 20 #[.int .u64 (tn (1#64 <<< (x1 % 64#64).toNat))] (vU (P.mk (1#64 <<< (x1 % 64#64).toNat) (1#64 <<< (x1 % 64#64).toNat))) rfl rfl (by intro x hx; exact span_Of_any (1#64 <<< (x1 % 64#64).toNat) _) ?_
 simp only [sA, sB, vU]
 refine tc 5 66 #[vU x0, vU (P.mk (1#64 <<< (x1 % 64#64).toNat) (1#64 <<< (x1 % 64#64).toNat))] (vU (span_Mul x0 (P.mk (1#64 <<< (x1 % 64#64).toNat) (1#64 <<< (x1 % 64#64).toNat)))) rfl rfl (by intro x hx; exact span_Mul_any x0 (P.mk (1#64 <<< (x1 % 64#64).toNat) (1#64 <<< (x1 % 64#64).toNat)) _) ?_
 simp only [sA, sB, vU]
 refine ts 6 1 0 (cU (span_Mul x0 (P.mk (1#64 <<< (x1 % 64#64).toNat) (1#64 <<< (x1 % 64#64).toNat)))) rfl rfl rfl (by intro x hx; obtain ⟨⟨_, z0, q0⟩, ⟨_, z1, q1⟩⟩ := hx.at2 1 0 rfl; go_simp; all_goals rfl) ?_
 simp only [Blk.putC, setM, cU, sA, sB]
 clear HS
 refine td fun W1 HS => ?_
 go_wp2
 obtain ⟨r0, r1⟩ := HS.out.two 1 0 rfl rfl
 exact bodyPost_ret (v := vU (span_Mul x0 (P.mk (1#64 <<< (x1 % 64#64).toNat) (1#64 <<< (x1 % 64#64).toNat)))) (by simp [results, Tryz.results118, go_sem, r0, r1, vU]) rfl ⟨rfl, HS.out.below⟩
end Go.Proofs.YtmcapfbkedfdkaaGreatDoor.Sp
