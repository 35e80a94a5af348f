/-
  The contracts of the bounds of Branch, one for each comparison.
-/
import Derived.Deep.DeepCutAuto
import Derived.Test.YtmcapfbkedfdkaaGreatDoorScG
import Derived.Test.YtmcapfbkedfdkaaGreatDoorScGb
namespace Go.Proofs.YtmcapfbkedfdkaaGreatDoor.Sp
set_option maxRecDepth 100000
set_option maxHeartbeats 4000000
open Go.RowKit Go.Proofs.YtmcapfbkedfdkaaGreatDoor.Num Go.Proofs.YtmcapfbkedfdkaaGreatDoor.Up
theorem scalar_unsigned_any (x0 : P)   (w : World) :
  Calls Tryz.prog 91 #[vU x0] w fun e w' => e = .returned (vU x0) ∧ Below w.heap.size w w' := by
 simp only [vU]
 go_enter Tryz.func91, Tryz.ntmps91
 have HS : Hid (St w [⟨w.heap.size, [some (.int .u64 (tn (x0.lo))), some (.int .u64 (tn (x0.hi)))], 27⟩, ⟨w.heap.size + 1, [some (.int .u64 0), some (.int .u64 0)], 115⟩] _) := hid (((st_nil w).alloc (k := w.heap.size) rfl [.int .u64 (tn (x0.lo)), .int .u64 (tn (x0.hi))] 27).alloc (k := w.heap.size + 1) (by simp) [.int .u64 0, .int .u64 0] 115)
 go_upto_region 1 with fail
 refine lnb HS.out rfl ?_
 refine lv 0 (.pointer (some ⟨w.heap.size, 0, none⟩)) rfl rfl (by intro x hx; go_simp; all_goals exact rfl) ?_
 simp only [sA, sB]
 refine lv 1 (.int .u64 (tn (x0.lo))) rfl rfl (by intro x hx; have f0 := hx.load 0 0 rfl rfl; go_simp; all_goals exact rfl) ?_
 simp only [sA, sB]
 refine lv 2 (.pointer (some ⟨w.heap.size, 1, none⟩)) rfl rfl (by intro x hx; go_simp; all_goals exact rfl) ?_
 simp only [sA, sB]
 refine lv 3 (.int .u64 (tn (x0.hi))) rfl rfl (by intro x hx; have f0 := hx.load 0 1 rfl rfl; go_simp; all_goals exact rfl) ?_
 simp only [sA, sB]
 refine lv 4 (vU x0) rfl rfl (by intro x hx; go_simp; all_goals exact rfl) ?_
 simp only [sA, sB, vU]
 refine ls 5 1 0 (cU x0) rfl rfl rfl (by intro x hx; obtain ⟨⟨_, z0, q0⟩, ⟨_, z1, q1⟩⟩ := hx.at2 1 0 rfl; go_simp; all_goals rfl) ?_
 simp only [Blk.putC, setM, cU, sA, sB]
 clear HS
 refine ld fun W1 HS => ?_
 go_wp2
 obtain ⟨r0, r1⟩ := HS.out.two 1 0 rfl rfl
 exact bodyPost_ret (v := vU x0) (by simp [results, Tryz.results91, go_sem, r0, r1, vU]) rfl ⟨rfl, HS.out.below⟩
theorem scalar_signed_any (x0 : P)   (w : World) :
  Calls Tryz.prog 93 #[vI x0] w fun e w' => e = .returned (vI x0) ∧ Below w.heap.size w w' := by
 simp only [vI]
 go_enter Tryz.func93, Tryz.ntmps93
 have HS : Hid (St w [⟨w.heap.size, [some (.int .i64 (ti (x0.lo))), some (.int .i64 (ti (x0.hi)))], 29⟩, ⟨w.heap.size + 1, [some (.int .i64 0), some (.int .i64 0)], 120⟩] _) := hid (((st_nil w).alloc (k := w.heap.size) rfl [.int .i64 (ti (x0.lo)), .int .i64 (ti (x0.hi))] 29).alloc (k := w.heap.size + 1) (by simp) [.int .i64 0, .int .i64 0] 120)
 go_upto_region 1 with fail
 refine lnb HS.out rfl ?_
 refine lv 0 (.pointer (some ⟨w.heap.size, 0, none⟩)) rfl rfl (by intro x hx; go_simp; all_goals exact rfl) ?_
 simp only [sA, sB]
 refine lv 1 (.int .i64 (ti (x0.lo))) rfl rfl (by intro x hx; have f0 := hx.load 0 0 rfl rfl; go_simp; all_goals exact rfl) ?_
 simp only [sA, sB]
 refine lv 2 (.pointer (some ⟨w.heap.size, 1, none⟩)) rfl rfl (by intro x hx; go_simp; all_goals exact rfl) ?_
 simp only [sA, sB]
 refine lv 3 (.int .i64 (ti (x0.hi))) rfl rfl (by intro x hx; have f0 := hx.load 0 1 rfl rfl; go_simp; all_goals exact rfl) ?_
 simp only [sA, sB]
 refine lv 4 (vI x0) rfl rfl (by intro x hx; go_simp; all_goals exact rfl) ?_
 simp only [sA, sB, vI]
 refine ls 5 1 0 (cI x0) rfl rfl rfl (by intro x hx; obtain ⟨⟨_, z0, q0⟩, ⟨_, z1, q1⟩⟩ := hx.at2 1 0 rfl; go_simp; all_goals rfl) ?_
 simp only [Blk.putC, setM, cI, sA, sB]
 clear HS
 refine ld fun W1 HS => ?_
 go_wp2
 obtain ⟨r0, r1⟩ := HS.out.two 1 0 rfl rfl
 exact bodyPost_ret (v := vI x0) (by simp [results, Tryz.results93, go_sem, r0, r1, vI]) rfl ⟨rfl, HS.out.below⟩
theorem scalar_toUnsigned_any (x0 : P)   (w : World) :
  Calls Tryz.prog 94 #[vU x0] w fun e w' => e = .returned (vU x0) ∧ Below w.heap.size w w' := by
 simp only [vU]
 go_enter Tryz.func94, Tryz.ntmps94
 have HS : Hid (St w [⟨w.heap.size, [some (.int .u64 (tn (x0.lo))), some (.int .u64 (tn (x0.hi)))], 115⟩, ⟨w.heap.size + 1, [some (.int .u64 0), some (.int .u64 0)], 27⟩] _) := hid (((st_nil w).alloc (k := w.heap.size) rfl [.int .u64 (tn (x0.lo)), .int .u64 (tn (x0.hi))] 115).alloc (k := w.heap.size + 1) (by simp) [.int .u64 0, .int .u64 0] 27)
 go_upto_region 1 with fail
 refine lnb HS.out rfl ?_
 refine lv 0 (.pointer (some ⟨w.heap.size, 0, none⟩)) rfl rfl (by intro x hx; go_simp; all_goals exact rfl) ?_
 simp only [sA, sB]
 refine lv 1 (.int .u64 (tn (x0.lo))) rfl rfl (by intro x hx; have f0 := hx.load 0 0 rfl rfl; go_simp; all_goals exact rfl) ?_
 simp only [sA, sB]
 refine lv 2 (.pointer (some ⟨w.heap.size, 1, none⟩)) rfl rfl (by intro x hx; go_simp; all_goals exact rfl) ?_
 simp only [sA, sB]
 refine lv 3 (.int .u64 (tn (x0.hi))) rfl rfl (by intro x hx; have f0 := hx.load 0 1 rfl rfl; go_simp; all_goals exact rfl) ?_
 simp only [sA, sB]
 refine lv 4 (vU x0) rfl rfl (by intro x hx; go_simp; all_goals exact rfl) ?_
 simp only [sA, sB, vU]
 refine ls 5 1 0 (cU x0) rfl rfl rfl (by intro x hx; obtain ⟨⟨_, z0, q0⟩, ⟨_, z1, q1⟩⟩ := hx.at2 1 0 rfl; go_simp; all_goals rfl) ?_
 simp only [Blk.putC, setM, cU, sA, sB]
 clear HS
 refine ld fun W1 HS => ?_
 go_wp2
 obtain ⟨r0, r1⟩ := HS.out.two 1 0 rfl rfl
 exact bodyPost_ret (v := vU x0) (by simp [results, Tryz.results94, go_sem, r0, r1, vU]) rfl ⟨rfl, HS.out.below⟩
theorem scalar_toSigned_any (x0 : P)   (w : World) :
  Calls Tryz.prog 95 #[vI x0] w fun e w' => e = .returned (vI x0) ∧ Below w.heap.size w w' := by
 simp only [vI]
 go_enter Tryz.func95, Tryz.ntmps95
 have HS : Hid (St w [⟨w.heap.size, [some (.int .i64 (ti (x0.lo))), some (.int .i64 (ti (x0.hi)))], 120⟩, ⟨w.heap.size + 1, [some (.int .i64 0), some (.int .i64 0)], 29⟩] _) := hid (((st_nil w).alloc (k := w.heap.size) rfl [.int .i64 (ti (x0.lo)), .int .i64 (ti (x0.hi))] 120).alloc (k := w.heap.size + 1) (by simp) [.int .i64 0, .int .i64 0] 29)
 go_upto_region 1 with fail
 refine lnb HS.out rfl ?_
 refine lv 0 (.pointer (some ⟨w.heap.size, 0, none⟩)) rfl rfl (by intro x hx; go_simp; all_goals exact rfl) ?_
 simp only [sA, sB]
 refine lv 1 (.int .i64 (ti (x0.lo))) rfl rfl (by intro x hx; have f0 := hx.load 0 0 rfl rfl; go_simp; all_goals exact rfl) ?_
 simp only [sA, sB]
 refine lv 2 (.pointer (some ⟨w.heap.size, 1, none⟩)) rfl rfl (by intro x hx; go_simp; all_goals exact rfl) ?_
 simp only [sA, sB]
 refine lv 3 (.int .i64 (ti (x0.hi))) rfl rfl (by intro x hx; have f0 := hx.load 0 1 rfl rfl; go_simp; all_goals exact rfl) ?_
 simp only [sA, sB]
 refine lv 4 (vI x0) rfl rfl (by intro x hx; go_simp; all_goals exact rfl) ?_
 simp only [sA, sB, vI]
 refine ls 5 1 0 (cI x0) rfl rfl rfl (by intro x hx; obtain ⟨⟨_, z0, q0⟩, ⟨_, z1, q1⟩⟩ := hx.at2 1 0 rfl; go_simp; all_goals rfl) ?_
 simp only [Blk.putC, setM, cI, sA, sB]
 clear HS
 refine ld fun W1 HS => ?_
 go_wp2
 obtain ⟨r0, r1⟩ := HS.out.two 1 0 rfl rfl
 exact bodyPost_ret (v := vI x0) (by simp [results, Tryz.results95, go_sem, r0, r1, vI]) rfl ⟨rfl, HS.out.below⟩
def scalar_differ (x0 : Sc) (x1 : Sc)  : Sc × Sc × Bool :=
 bif (scalar_bothApart_uint64 x0.u x1.u).2.2 then ((Sc.mk x0.t ((scalar_bothApart_uint64 x0.u x1.u).1) ((scalar_bothApart_int64 x0.s x1.s).1), Sc.mk x1.t ((scalar_bothApart_uint64 x0.u x1.u).2.1) ((scalar_bothApart_int64 x0.s x1.s).2.1), (scalar_bothApart_int64 x0.s x1.s).2.2)) else ((Sc.mk x0.t ((scalar_bothApart_uint64 x0.u x1.u).1) ((scalar_bothApart_int64 x0.s x1.s).1), Sc.mk x1.t ((scalar_bothApart_uint64 x0.u x1.u).2.1) ((scalar_bothApart_int64 x0.s x1.s).2.1), false))
theorem scalar_differ_any (x0 : Sc) (x1 : Sc)   (w : World) :
   Calls Tryz.prog 40 #[vS x0, vS x1] w fun e w' => e = .returned (.tuple #[vS ((scalar_differ x0 x1).1), vS ((scalar_differ x0 x1).2.1), .bool ((scalar_differ x0 x1).2.2)]) ∧ Below w.heap.size w w' := by
 simp only [vS]
 go_enter Tryz.func40, Tryz.ntmps40
 have HS : Hid (St w [⟨w.heap.size, [some (.int .u64 (tn (x0.t.lo))), some (.int .u64 (tn (x0.t.hi))), some (.int .u64 (tn (x0.u.lo))), some (.int .u64 (tn (x0.u.hi))), some (.int .i64 (ti (x0.s.lo))), some (.int .i64 (ti (x0.s.hi)))], 31⟩, ⟨w.heap.size + 1, [some (.int .u64 (tn (x1.t.lo))), some (.int .u64 (tn (x1.t.hi))), some (.int .u64 (tn (x1.u.lo))), some (.int .u64 (tn (x1.u.hi))), some (.int .i64 (ti (x1.s.lo))), some (.int .i64 (ti (x1.s.hi)))], 31⟩, ⟨w.heap.size + 2, [some (.int .u64 0), some (.int .u64 0), some (.int .u64 0), some (.int .u64 0), some (.int .i64 0), some (.int .i64 0)], 31⟩, ⟨w.heap.size + 3, [some (.int .u64 0), some (.int .u64 0), some (.int .u64 0), some (.int .u64 0), some (.int .i64 0), some (.int .i64 0)], 31⟩] _) := hid (((((st_nil w).alloc (k := w.heap.size) rfl [.int .u64 (tn (x0.t.lo)), .int .u64 (tn (x0.t.hi)), .int .u64 (tn (x0.u.lo)), .int .u64 (tn (x0.u.hi)), .int .i64 (ti (x0.s.lo)), .int .i64 (ti (x0.s.hi))] 31).alloc (k := w.heap.size + 1) (by simp) [.int .u64 (tn (x1.t.lo)), .int .u64 (tn (x1.t.hi)), .int .u64 (tn (x1.u.lo)), .int .u64 (tn (x1.u.hi)), .int .i64 (ti (x1.s.lo)), .int .i64 (ti (x1.s.hi))] 31).alloc (k := w.heap.size + 2) (by simp) [.int .u64 0, .int .u64 0, .int .u64 0, .int .u64 0, .int .i64 0, .int .i64 0] 31).alloc (k := w.heap.size + 3) (by simp) [.int .u64 0, .int .u64 0, .int .u64 0, .int .u64 0, .int .i64 0, .int .i64 0] 31)
 go_upto_region 1 with fail
 refine upb 16 (HS.out.drew) rfl ?_
 refine tv 0 (.pointer (some ⟨w.heap.size, 2, none⟩)) rfl rfl (by intro x hx; go_simp; all_goals exact rfl) ?_
 simp only [sA, sB]
 refine tv 1 (vU x0.u) rfl rfl (by intro x hx; obtain ⟨f0, f1⟩ := hx.two 0 2 rfl rfl; go_simp; all_goals exact rfl) ?_
 simp only [sA, sB, vU]
 refine tc 2 91 #[vU x0.u] (vU x0.u) rfl rfl (by intro x hx; exact scalar_unsigned_any x0.u _) ?_
 simp only [sA, sB, vU]
 refine tv 3 (.pointer (some ⟨w.heap.size + 1, 2, none⟩)) rfl rfl (by intro x hx; go_simp; all_goals exact rfl) ?_
 simp only [sA, sB]
 refine tv 4 (vU x1.u) rfl rfl (by intro x hx; obtain ⟨f0, f1⟩ := hx.two 1 2 rfl rfl; go_simp; all_goals exact rfl) ?_
 simp only [sA, sB, vU]
 refine tc 5 91 #[vU x1.u] (vU x1.u) rfl rfl (by intro x hx; exact scalar_unsigned_any x1.u _) ?_
 simp only [sA, sB, vU]
 refine tc 6 90 #[vU x0.u, vU x1.u] (.tuple #[vU ((scalar_bothApart_uint64 x0.u x1.u).1), vU ((scalar_bothApart_uint64 x0.u x1.u).2.1), .bool ((scalar_bothApart_uint64 x0.u x1.u).2.2)]) rfl rfl (by intro x hx; exact scalar_bothApart_uint64_any x0.u x1.u _) ?_
 simp only [sA, sB, vU]
 refine tm 7 20 rfl rfl rfl rfl ?_
 simp only [sA, sB]
 refine tv 8 (vU ((scalar_bothApart_uint64 x0.u x1.u).1)) rfl rfl (by intro x hx; go_simp; all_goals exact rfl) ?_
 simp only [sA, sB, vU]
 refine tv 9 (vU ((scalar_bothApart_uint64 x0.u x1.u).2.1)) rfl rfl (by intro x hx; go_simp; all_goals exact rfl) ?_
 simp only [sA, sB, vU]
 refine tv 10 (.bool ((scalar_bothApart_uint64 x0.u x1.u).2.2)) rfl rfl (by intro x hx; go_simp; all_goals exact rfl) ?_
 simp only [sA, sB]
 refine take_two_new (i := 11) (j := 12) rfl rfl rfl rfl (by decide) (by decide) (by kernel_rfl) (by kernel_rfl) (by kernel_rfl) [.int .u64 0, .int .u64 0] 115 (fun k => .pointer (some ⟨k, 0, none⟩)) [none, none] (lessC_no (lessC_no (trivial))) [.int .u64 0, .int .u64 0] 115 (fun k => .pointer (some ⟨k, 0, none⟩)) [none, none] (lessC_no (lessC_no (trivial))) (by rfl) (by rfl) (fun k => by rfl) (fun k => by rfl) (by intro x hx; go_simp; all_goals exact rfl) (by intro x hx; go_simp; all_goals exact rfl) (by intro k x hx; go_simp; all_goals exact rfl) (by intro k x hx; go_simp; all_goals exact rfl) (fun k1 k2 => ?_)
 simp only [sA, sB, sC, sD]
 refine ts 13 4 0 (cU ((scalar_bothApart_uint64 x0.u x1.u).1)) rfl rfl rfl (by intro x hx; obtain ⟨⟨_, z0, q0⟩, ⟨_, z1, q1⟩⟩ := hx.at2 4 0 rfl; go_simp; all_goals rfl) ?_
 simp only [Blk.putC, setM, cU, sA, sB]
 refine ts 14 5 0 (cU ((scalar_bothApart_uint64 x0.u x1.u).2.1)) rfl rfl rfl (by intro x hx; obtain ⟨⟨_, z0, q0⟩, ⟨_, z1, q1⟩⟩ := hx.at2 5 0 rfl; go_simp; all_goals rfl) ?_
 simp only [Blk.putC, setM, cU, sA, sB]
 refine ta 15 23 rfl rfl rfl rfl ?_
 simp only [sA, sB]
 clear HS
 refine td fun W1 HS => ?_
 go_upto_region 2 with fail
 refine upb 16 (HS.out.drew) rfl ?_
 refine tv 0 (.pointer (some ⟨w.heap.size, 4, none⟩)) rfl rfl (by intro x hx; go_simp; all_goals exact rfl) ?_
 simp only [sA, sB]
 refine tv 1 (vI x0.s) rfl rfl (by intro x hx; obtain ⟨f0, f1⟩ := hx.two 0 4 rfl rfl; go_simp; all_goals exact rfl) ?_
 simp only [sA, sB, vI]
 refine tc 2 93 #[vI x0.s] (vI x0.s) rfl rfl (by intro x hx; exact scalar_signed_any x0.s _) ?_
 simp only [sA, sB, vI]
 refine tv 3 (.pointer (some ⟨w.heap.size + 1, 4, none⟩)) rfl rfl (by intro x hx; go_simp; all_goals exact rfl) ?_
 simp only [sA, sB]
 refine tv 4 (vI x1.s) rfl rfl (by intro x hx; obtain ⟨f0, f1⟩ := hx.two 1 4 rfl rfl; go_simp; all_goals exact rfl) ?_
 simp only [sA, sB, vI]
 refine tc 5 93 #[vI x1.s] (vI x1.s) rfl rfl (by intro x hx; exact scalar_signed_any x1.s _) ?_
 simp only [sA, sB, vI]
 refine tc 6 92 #[vI x0.s, vI x1.s] (.tuple #[vI ((scalar_bothApart_int64 x0.s x1.s).1), vI ((scalar_bothApart_int64 x0.s x1.s).2.1), .bool ((scalar_bothApart_int64 x0.s x1.s).2.2)]) rfl rfl (by intro x hx; exact scalar_bothApart_int64_any x0.s x1.s _) ?_
 simp only [sA, sB, vI]
 refine tm 7 31 rfl rfl rfl rfl ?_
 simp only [sA, sB]
 refine tv 8 (vI ((scalar_bothApart_int64 x0.s x1.s).1)) rfl rfl (by intro x hx; go_simp; all_goals exact rfl) ?_
 simp only [sA, sB, vI]
 refine tv 9 (vI ((scalar_bothApart_int64 x0.s x1.s).2.1)) rfl rfl (by intro x hx; go_simp; all_goals exact rfl) ?_
 simp only [sA, sB, vI]
 refine tv 10 (.bool ((scalar_bothApart_int64 x0.s x1.s).2.2)) rfl rfl (by intro x hx; go_simp; all_goals exact rfl) ?_
 simp only [sA, sB]
 refine take_two_new (i := 11) (j := 12) rfl rfl rfl rfl (by decide) (by decide) (by kernel_rfl) (by kernel_rfl) (by kernel_rfl) [.int .i64 0, .int .i64 0] 120 (fun k => .pointer (some ⟨k, 0, none⟩)) [none, none] (lessC_no (lessC_no (trivial))) [.int .i64 0, .int .i64 0] 120 (fun k => .pointer (some ⟨k, 0, none⟩)) [none, none] (lessC_no (lessC_no (trivial))) (by rfl) (by rfl) (fun k => by rfl) (fun k => by rfl) (by intro x hx; go_simp; all_goals exact rfl) (by intro x hx; go_simp; all_goals exact rfl) (by intro k x hx; go_simp; all_goals exact rfl) (by intro k x hx; go_simp; all_goals exact rfl) (fun k3 k4 => ?_)
 simp only [sA, sB, sC, sD]
 refine ts 13 6 0 (cI ((scalar_bothApart_int64 x0.s x1.s).1)) rfl rfl rfl (by intro x hx; obtain ⟨⟨_, z0, q0⟩, ⟨_, z1, q1⟩⟩ := hx.at2 6 0 rfl; go_simp; all_goals rfl) ?_
 simp only [Blk.putC, setM, cI, sA, sB]
 refine ts 14 7 0 (cI ((scalar_bothApart_int64 x0.s x1.s).2.1)) rfl rfl rfl (by intro x hx; obtain ⟨⟨_, z0, q0⟩, ⟨_, z1, q1⟩⟩ := hx.at2 7 0 rfl; go_simp; all_goals rfl) ?_
 simp only [Blk.putC, setM, cI, sA, sB]
 refine ta 15 34 rfl rfl rfl rfl ?_
 simp only [sA, sB]
 clear HS
 refine td fun W2 HS => ?_
 go_upto_region 3 with fail
 refine upb 8 (((HS.out.drew.forget 0 2 2 rfl).forget 1 2 2 rfl)) rfl ?_
 simp only [Blk.dropC, noneM, sA, sB]
 refine tv 0 (vU ((scalar_bothApart_uint64 x0.u x1.u).1)) rfl rfl (by intro x hx; obtain ⟨f0, f1⟩ := hx.two 4 0 rfl rfl; go_simp; all_goals exact rfl) ?_
 simp only [sA, sB, vU]
 refine tc 1 94 #[vU ((scalar_bothApart_uint64 x0.u x1.u).1)] (vU ((scalar_bothApart_uint64 x0.u x1.u).1)) rfl rfl (by intro x hx; exact scalar_toUnsigned_any ((scalar_bothApart_uint64 x0.u x1.u).1) _) ?_
 simp only [sA, sB, vU]
 refine tv 2 (vU ((scalar_bothApart_uint64 x0.u x1.u).2.1)) rfl rfl (by intro x hx; obtain ⟨f0, f1⟩ := hx.two 5 0 rfl rfl; go_simp; all_goals exact rfl) ?_
 simp only [sA, sB, vU]
 refine tc 3 94 #[vU ((scalar_bothApart_uint64 x0.u x1.u).2.1)] (vU ((scalar_bothApart_uint64 x0.u x1.u).2.1)) rfl rfl (by intro x hx; exact scalar_toUnsigned_any ((scalar_bothApart_uint64 x0.u x1.u).2.1) _) ?_
 simp only [sA, sB, vU]
 refine tv 4 (.pointer (some ⟨w.heap.size, 2, none⟩)) rfl rfl (by intro x hx; go_simp; all_goals exact rfl) ?_
 simp only [sA, sB]
 refine ts 5 0 2 (cU ((scalar_bothApart_uint64 x0.u x1.u).1)) rfl rfl rfl (by intro x hx; obtain ⟨⟨_, z0, q0⟩, ⟨_, z1, q1⟩⟩ := hx.at2 0 2 rfl; go_simp; all_goals rfl) ?_
 simp only [Blk.putC, setM, cU, sA, sB]
 refine tv 6 (.pointer (some ⟨w.heap.size + 1, 2, none⟩)) rfl rfl (by intro x hx; go_simp; all_goals exact rfl) ?_
 simp only [sA, sB]
 refine ts 7 1 2 (cU ((scalar_bothApart_uint64 x0.u x1.u).2.1)) rfl rfl rfl (by intro x hx; obtain ⟨⟨_, z0, q0⟩, ⟨_, z1, q1⟩⟩ := hx.at2 1 2 rfl; go_simp; all_goals rfl) ?_
 simp only [Blk.putC, setM, cU, sA, sB]
 clear HS
 refine td fun W3 HS => ?_
 go_upto_region 4 with fail
 refine upb 8 (((HS.out.drew.forget 0 4 2 rfl).forget 1 4 2 rfl)) rfl ?_
 simp only [Blk.dropC, noneM, sA, sB]
 refine tv 0 (vI ((scalar_bothApart_int64 x0.s x1.s).1)) rfl rfl (by intro x hx; obtain ⟨f0, f1⟩ := hx.two 6 0 rfl rfl; go_simp; all_goals exact rfl) ?_
 simp only [sA, sB, vI]
 refine tc 1 95 #[vI ((scalar_bothApart_int64 x0.s x1.s).1)] (vI ((scalar_bothApart_int64 x0.s x1.s).1)) rfl rfl (by intro x hx; exact scalar_toSigned_any ((scalar_bothApart_int64 x0.s x1.s).1) _) ?_
 simp only [sA, sB, vI]
 refine tv 2 (vI ((scalar_bothApart_int64 x0.s x1.s).2.1)) rfl rfl (by intro x hx; obtain ⟨f0, f1⟩ := hx.two 7 0 rfl rfl; go_simp; all_goals exact rfl) ?_
 simp only [sA, sB, vI]
 refine tc 3 95 #[vI ((scalar_bothApart_int64 x0.s x1.s).2.1)] (vI ((scalar_bothApart_int64 x0.s x1.s).2.1)) rfl rfl (by intro x hx; exact scalar_toSigned_any ((scalar_bothApart_int64 x0.s x1.s).2.1) _) ?_
 simp only [sA, sB, vI]
 refine tv 4 (.pointer (some ⟨w.heap.size, 4, none⟩)) rfl rfl (by intro x hx; go_simp; all_goals exact rfl) ?_
 simp only [sA, sB]
 refine ts 5 0 4 (cI ((scalar_bothApart_int64 x0.s x1.s).1)) rfl rfl rfl (by intro x hx; obtain ⟨⟨_, z0, q0⟩, ⟨_, z1, q1⟩⟩ := hx.at2 0 4 rfl; go_simp; all_goals rfl) ?_
 simp only [Blk.putC, setM, cI, sA, sB]
 refine tv 6 (.pointer (some ⟨w.heap.size + 1, 4, none⟩)) rfl rfl (by intro x hx; go_simp; all_goals exact rfl) ?_
 simp only [sA, sB]
 refine ts 7 1 4 (cI ((scalar_bothApart_int64 x0.s x1.s).2.1)) rfl rfl rfl (by intro x hx; obtain ⟨⟨_, z0, q0⟩, ⟨_, z1, q1⟩⟩ := hx.at2 1 4 rfl; go_simp; all_goals rfl) ?_
 simp only [Blk.putC, setM, cI, sA, sB]
 clear HS
 refine td fun W4 HS => ?_
 go_upto_region 5 with fail
 refine upb 9 (((HS.out.drew.forget 2 0 6 rfl).forget 3 0 6 rfl)) rfl ?_
 simp only [Blk.dropC, noneM, sA, sB]
 refine tv 0 (vS (Sc.mk x0.t ((scalar_bothApart_uint64 x0.u x1.u).1) ((scalar_bothApart_int64 x0.s x1.s).1))) rfl rfl (by intro x hx; obtain ⟨f0, f1, f2, f3, f4, f5⟩ := hx.six 0 0 rfl rfl; go_simp; all_goals exact rfl) ?_
 simp only [sA, sB, vS]
 refine tv 1 (vS (Sc.mk x1.t ((scalar_bothApart_uint64 x0.u x1.u).2.1) ((scalar_bothApart_int64 x0.s x1.s).2.1))) rfl rfl (by intro x hx; obtain ⟨f0, f1, f2, f3, f4, f5⟩ := hx.six 1 0 rfl rfl; go_simp; all_goals exact rfl) ?_
 simp only [sA, sB, vS]
 refine tm 2 9 rfl rfl rfl rfl ?_
 simp only [sA, sB]
 refine tm 3 49 rfl rfl rfl rfl ?_
 simp only [sA, sB]
 cases h1 : ((scalar_bothApart_uint64 x0.u x1.u).2.2)
 ·replace h1 := hid h1
  refine take_no (i := 4) (st_ups _ _) rfl rfl (by kernel_rfl) (fun _ _ _ h => h) (by kernel_rfl) ?_
  simp only [sA, sB]
  refine tv 5 (.bool false) rfl rfl (by intro x hx; go_simp; all_goals exact rfl) ?_
  simp only [sA, sB]
  refine ts 6 2 0 (cS (Sc.mk x0.t ((scalar_bothApart_uint64 x0.u x1.u).1) ((scalar_bothApart_int64 x0.s x1.s).1))) rfl rfl rfl (by intro x hx; obtain ⟨⟨_, z0, q0⟩, ⟨_, z1, q1⟩, ⟨_, z2, q2⟩, ⟨_, z3, q3⟩, ⟨_, z4, q4⟩, ⟨_, z5, q5⟩⟩ := hx.at6 2 0 rfl; go_simp; all_goals rfl) ?_
  simp only [Blk.putC, setM, cS, sA, sB]
  refine ts 7 3 0 (cS (Sc.mk x1.t ((scalar_bothApart_uint64 x0.u x1.u).2.1) ((scalar_bothApart_int64 x0.s x1.s).2.1))) rfl rfl rfl (by intro x hx; obtain ⟨⟨_, z0, q0⟩, ⟨_, z1, q1⟩, ⟨_, z2, q2⟩, ⟨_, z3, q3⟩, ⟨_, z4, q4⟩, ⟨_, z5, q5⟩⟩ := hx.at6 3 0 rfl; go_simp; all_goals rfl) ?_
  simp only [Blk.putC, setM, cS, sA, sB]
  refine ta 8 52 rfl rfl rfl rfl ?_
  simp only [sA, sB]
  clear HS
  refine td fun W5 HS => ?_
  go_wp2
  obtain ⟨r0, r1, r2, r3, r4, r5⟩ := HS.out.six 2 0 rfl rfl
  obtain ⟨r6, r7, r8, r9, r10, r11⟩ := HS.out.six 3 0 rfl rfl
  have HF : scalar_differ x0 x1 = (Sc.mk x0.t ((scalar_bothApart_uint64 x0.u x1.u).1) ((scalar_bothApart_int64 x0.s x1.s).1), Sc.mk x1.t ((scalar_bothApart_uint64 x0.u x1.u).2.1) ((scalar_bothApart_int64 x0.s x1.s).2.1), false) := by
    unfold scalar_differ
    rw [cond_f h1.out]
  exact bodyPost_ret (v := .tuple #[vS (Sc.mk x0.t ((scalar_bothApart_uint64 x0.u x1.u).1) ((scalar_bothApart_int64 x0.s x1.s).1)), vS (Sc.mk x1.t ((scalar_bothApart_uint64 x0.u x1.u).2.1) ((scalar_bothApart_int64 x0.s x1.s).2.1)), .bool false]) (by simp [results, Tryz.results40, go_sem, r0, r1, r2, r3, r4, r5, r6, r7, r8, r9, r10, r11, vS]) rfl ⟨(by first | (rw [HF]; done) | (rw [HF]; rfl)), HS.out.below⟩
 ·replace h1 := hid h1
  refine tv 4 (.bool ((scalar_bothApart_int64 x0.s x1.s).2.2)) rfl rfl (by intro x hx; go_simp; all_goals exact rfl) ?_
  simp only [sA, sB]
  refine tv 5 (.bool ((scalar_bothApart_int64 x0.s x1.s).2.2)) rfl rfl (by intro x hx; go_simp; all_goals exact rfl) ?_
  simp only [sA, sB]
  refine ts 6 2 0 (cS (Sc.mk x0.t ((scalar_bothApart_uint64 x0.u x1.u).1) ((scalar_bothApart_int64 x0.s x1.s).1))) rfl rfl rfl (by intro x hx; obtain ⟨⟨_, z0, q0⟩, ⟨_, z1, q1⟩, ⟨_, z2, q2⟩, ⟨_, z3, q3⟩, ⟨_, z4, q4⟩, ⟨_, z5, q5⟩⟩ := hx.at6 2 0 rfl; go_simp; all_goals rfl) ?_
  simp only [Blk.putC, setM, cS, sA, sB]
  refine ts 7 3 0 (cS (Sc.mk x1.t ((scalar_bothApart_uint64 x0.u x1.u).2.1) ((scalar_bothApart_int64 x0.s x1.s).2.1))) rfl rfl rfl (by intro x hx; obtain ⟨⟨_, z0, q0⟩, ⟨_, z1, q1⟩, ⟨_, z2, q2⟩, ⟨_, z3, q3⟩, ⟨_, z4, q4⟩, ⟨_, z5, q5⟩⟩ := hx.at6 3 0 rfl; go_simp; all_goals rfl) ?_
  simp only [Blk.putC, setM, cS, sA, sB]
  refine ta 8 52 rfl rfl rfl rfl ?_
  simp only [sA, sB]
  clear HS
  refine td fun W5 HS => ?_
  go_wp2
  obtain ⟨r0, r1, r2, r3, r4, r5⟩ := HS.out.six 2 0 rfl rfl
  obtain ⟨r6, r7, r8, r9, r10, r11⟩ := HS.out.six 3 0 rfl rfl
  have HF : scalar_differ x0 x1 = (Sc.mk x0.t ((scalar_bothApart_uint64 x0.u x1.u).1) ((scalar_bothApart_int64 x0.s x1.s).1), Sc.mk x1.t ((scalar_bothApart_uint64 x0.u x1.u).2.1) ((scalar_bothApart_int64 x0.s x1.s).2.1), (scalar_bothApart_int64 x0.s x1.s).2.2) := by
    unfold scalar_differ
    rw [cond_t h1.out]
  exact bodyPost_ret (v := .tuple #[vS (Sc.mk x0.t ((scalar_bothApart_uint64 x0.u x1.u).1) ((scalar_bothApart_int64 x0.s x1.s).1)), vS (Sc.mk x1.t ((scalar_bothApart_uint64 x0.u x1.u).2.1) ((scalar_bothApart_int64 x0.s x1.s).2.1)), .bool ((scalar_bothApart_int64 x0.s x1.s).2.2)]) (by simp [results, Tryz.results40, go_sem, r0, r1, r2, r3, r4, r5, r6, r7, r8, r9, r10, r11, vS]) rfl ⟨(by first | (rw [HF]; done) | (rw [HF]; rfl)), HS.out.below⟩
def scalar_less (x0 : Sc) (x1 : Sc) (x2 : BitVec 64)  : Sc × Sc × Bool :=
 (Sc.mk x0.t ((scalar_ordered_uint64 x0.u x1.u x2).1) x0.s, Sc.mk x1.t ((scalar_ordered_uint64 x0.u x1.u x2).2.1) x1.s, (scalar_ordered_uint64 x0.u x1.u x2).2.2)
theorem scalar_less_any (x0 : Sc) (x1 : Sc) (x2 : BitVec 64)   (w : World) :
  Calls Tryz.prog 96 #[vS x0, vS x1, .int .u64 (tn (x2))] w fun e w' => e = .returned (.tuple #[vS ((scalar_less x0 x1 x2).1), vS ((scalar_less x0 x1 x2).2.1), .bool ((scalar_less x0 x1 x2).2.2)]) ∧ Below w.heap.size w w' := by
 simp only [vS]
 go_enter Tryz.func96, Tryz.ntmps96
 have HS : Hid (St w [⟨w.heap.size, [some (.int .u64 (tn (x0.t.lo))), some (.int .u64 (tn (x0.t.hi))), some (.int .u64 (tn (x0.u.lo))), some (.int .u64 (tn (x0.u.hi))), some (.int .i64 (ti (x0.s.lo))), some (.int .i64 (ti (x0.s.hi)))], 31⟩, ⟨w.heap.size + 1, [some (.int .u64 (tn (x1.t.lo))), some (.int .u64 (tn (x1.t.hi))), some (.int .u64 (tn (x1.u.lo))), some (.int .u64 (tn (x1.u.hi))), some (.int .i64 (ti (x1.s.lo))), some (.int .i64 (ti (x1.s.hi)))], 31⟩, ⟨w.heap.size + 2, [some (.int .u64 0), some (.int .u64 0), some (.int .u64 0), some (.int .u64 0), some (.int .i64 0), some (.int .i64 0)], 31⟩, ⟨w.heap.size + 3, [some (.int .u64 0), some (.int .u64 0), some (.int .u64 0), some (.int .u64 0), some (.int .i64 0), some (.int .i64 0)], 31⟩] _) := hid (((((st_nil w).alloc (k := w.heap.size) rfl [.int .u64 (tn (x0.t.lo)), .int .u64 (tn (x0.t.hi)), .int .u64 (tn (x0.u.lo)), .int .u64 (tn (x0.u.hi)), .int .i64 (ti (x0.s.lo)), .int .i64 (ti (x0.s.hi))] 31).alloc (k := w.heap.size + 1) (by simp) [.int .u64 (tn (x1.t.lo)), .int .u64 (tn (x1.t.hi)), .int .u64 (tn (x1.u.lo)), .int .u64 (tn (x1.u.hi)), .int .i64 (ti (x1.s.lo)), .int .i64 (ti (x1.s.hi))] 31).alloc (k := w.heap.size + 2) (by simp) [.int .u64 0, .int .u64 0, .int .u64 0, .int .u64 0, .int .i64 0, .int .i64 0] 31).alloc (k := w.heap.size + 3) (by simp) [.int .u64 0, .int .u64 0, .int .u64 0, .int .u64 0, .int .i64 0, .int .i64 0] 31)
 go_upto_region 1 with fail
 refine upb 17 (HS.out.drew) rfl ?_
 refine tv 0 (.pointer (some ⟨w.heap.size, 2, none⟩)) rfl rfl (by intro x hx; go_simp; all_goals exact rfl) ?_
 simp only [sA, sB]
 refine tv 1 (vU x0.u) rfl rfl (by intro x hx; obtain ⟨f0, f1⟩ := hx.two 0 2 rfl rfl; go_simp; all_goals exact rfl) ?_
 simp only [sA, sB, vU]
 refine tc 2 91 #[vU x0.u] (vU x0.u) rfl rfl (by intro x hx; exact scalar_unsigned_any x0.u _) ?_
 simp only [sA, sB, vU]
 refine tv 3 (.pointer (some ⟨w.heap.size + 1, 2, none⟩)) rfl rfl (by intro x hx; go_simp; all_goals exact rfl) ?_
 simp only [sA, sB]
 refine tv 4 (vU x1.u) rfl rfl (by intro x hx; obtain ⟨f0, f1⟩ := hx.two 1 2 rfl rfl; go_simp; all_goals exact rfl) ?_
 simp only [sA, sB, vU]
 refine tc 5 91 #[vU x1.u] (vU x1.u) rfl rfl (by intro x hx; exact scalar_unsigned_any x1.u _) ?_
 simp only [sA, sB, vU]
 refine tm 6 2 rfl rfl rfl rfl ?_
 simp only [sA, sB]
 refine tc 7 126 #[vU x0.u, vU x1.u, .int .u64 (tn (x2))] (.tuple #[vU ((scalar_ordered_uint64 x0.u x1.u x2).1), vU ((scalar_ordered_uint64 x0.u x1.u x2).2.1), .bool ((scalar_ordered_uint64 x0.u x1.u x2).2.2)]) rfl rfl (by intro x hx; exact scalar_ordered_uint64_any x0.u x1.u x2 _) ?_
 simp only [sA, sB, vU]
 refine tm 8 20 rfl rfl rfl rfl ?_
 simp only [sA, sB]
 refine tv 9 (vU ((scalar_ordered_uint64 x0.u x1.u x2).1)) rfl rfl (by intro x hx; go_simp; all_goals exact rfl) ?_
 simp only [sA, sB, vU]
 refine tv 10 (vU ((scalar_ordered_uint64 x0.u x1.u x2).2.1)) rfl rfl (by intro x hx; go_simp; all_goals exact rfl) ?_
 simp only [sA, sB, vU]
 refine tv 11 (.bool ((scalar_ordered_uint64 x0.u x1.u x2).2.2)) rfl rfl (by intro x hx; go_simp; all_goals exact rfl) ?_
 simp only [sA, sB]
 refine take_two_new (i := 12) (j := 13) rfl rfl rfl rfl (by decide) (by decide) (by kernel_rfl) (by kernel_rfl) (by kernel_rfl) [.int .u64 0, .int .u64 0] 115 (fun k => .pointer (some ⟨k, 0, none⟩)) [none, none] (lessC_no (lessC_no (trivial))) [.int .u64 0, .int .u64 0] 115 (fun k => .pointer (some ⟨k, 0, none⟩)) [none, none] (lessC_no (lessC_no (trivial))) (by rfl) (by rfl) (fun k => by rfl) (fun k => by rfl) (by intro x hx; go_simp; all_goals exact rfl) (by intro x hx; go_simp; all_goals exact rfl) (by intro k x hx; go_simp; all_goals exact rfl) (by intro k x hx; go_simp; all_goals exact rfl) (fun k1 k2 => ?_)
 simp only [sA, sB, sC, sD]
 refine ts 14 4 0 (cU ((scalar_ordered_uint64 x0.u x1.u x2).1)) rfl rfl rfl (by intro x hx; obtain ⟨⟨_, z0, q0⟩, ⟨_, z1, q1⟩⟩ := hx.at2 4 0 rfl; go_simp; all_goals rfl) ?_
 simp only [Blk.putC, setM, cU, sA, sB]
 refine ts 15 5 0 (cU ((scalar_ordered_uint64 x0.u x1.u x2).2.1)) rfl rfl rfl (by intro x hx; obtain ⟨⟨_, z0, q0⟩, ⟨_, z1, q1⟩⟩ := hx.at2 5 0 rfl; go_simp; all_goals rfl) ?_
 simp only [Blk.putC, setM, cU, sA, sB]
 refine ta 16 23 rfl rfl rfl rfl ?_
 simp only [sA, sB]
 clear HS
 refine td fun W1 HS => ?_
 go_upto_region 2 with fail
 refine upb 8 (((HS.out.drew.forget 0 2 2 rfl).forget 1 2 2 rfl)) rfl ?_
 simp only [Blk.dropC, noneM, sA, sB]
 refine tv 0 (vU ((scalar_ordered_uint64 x0.u x1.u x2).1)) rfl rfl (by intro x hx; obtain ⟨f0, f1⟩ := hx.two 4 0 rfl rfl; go_simp; all_goals exact rfl) ?_
 simp only [sA, sB, vU]
 refine tc 1 94 #[vU ((scalar_ordered_uint64 x0.u x1.u x2).1)] (vU ((scalar_ordered_uint64 x0.u x1.u x2).1)) rfl rfl (by intro x hx; exact scalar_toUnsigned_any ((scalar_ordered_uint64 x0.u x1.u x2).1) _) ?_
 simp only [sA, sB, vU]
 refine tv 2 (vU ((scalar_ordered_uint64 x0.u x1.u x2).2.1)) rfl rfl (by intro x hx; obtain ⟨f0, f1⟩ := hx.two 5 0 rfl rfl; go_simp; all_goals exact rfl) ?_
 simp only [sA, sB, vU]
 refine tc 3 94 #[vU ((scalar_ordered_uint64 x0.u x1.u x2).2.1)] (vU ((scalar_ordered_uint64 x0.u x1.u x2).2.1)) rfl rfl (by intro x hx; exact scalar_toUnsigned_any ((scalar_ordered_uint64 x0.u x1.u x2).2.1) _) ?_
 simp only [sA, sB, vU]
 refine tv 4 (.pointer (some ⟨w.heap.size, 2, none⟩)) rfl rfl (by intro x hx; go_simp; all_goals exact rfl) ?_
 simp only [sA, sB]
 refine ts 5 0 2 (cU ((scalar_ordered_uint64 x0.u x1.u x2).1)) rfl rfl rfl (by intro x hx; obtain ⟨⟨_, z0, q0⟩, ⟨_, z1, q1⟩⟩ := hx.at2 0 2 rfl; go_simp; all_goals rfl) ?_
 simp only [Blk.putC, setM, cU, sA, sB]
 refine tv 6 (.pointer (some ⟨w.heap.size + 1, 2, none⟩)) rfl rfl (by intro x hx; go_simp; all_goals exact rfl) ?_
 simp only [sA, sB]
 refine ts 7 1 2 (cU ((scalar_ordered_uint64 x0.u x1.u x2).2.1)) rfl rfl rfl (by intro x hx; obtain ⟨⟨_, z0, q0⟩, ⟨_, z1, q1⟩⟩ := hx.at2 1 2 rfl; go_simp; all_goals rfl) ?_
 simp only [Blk.putC, setM, cU, sA, sB]
 clear HS
 refine td fun W2 HS => ?_
 go_upto_region 3 with fail
 refine upb 6 (((HS.out.drew.forget 2 0 6 rfl).forget 3 0 6 rfl)) rfl ?_
 simp only [Blk.dropC, noneM, sA, sB]
 refine tv 0 (vS (Sc.mk x0.t ((scalar_ordered_uint64 x0.u x1.u x2).1) x0.s)) rfl rfl (by intro x hx; obtain ⟨f0, f1, f2, f3, f4, f5⟩ := hx.six 0 0 rfl rfl; go_simp; all_goals exact rfl) ?_
 simp only [sA, sB, vS]
 refine tv 1 (vS (Sc.mk x1.t ((scalar_ordered_uint64 x0.u x1.u x2).2.1) x1.s)) rfl rfl (by intro x hx; obtain ⟨f0, f1, f2, f3, f4, f5⟩ := hx.six 1 0 rfl rfl; go_simp; all_goals exact rfl) ?_
 simp only [sA, sB, vS]
 refine tm 2 11 rfl rfl rfl rfl ?_
 simp only [sA, sB]
 refine ts 3 2 0 (cS (Sc.mk x0.t ((scalar_ordered_uint64 x0.u x1.u x2).1) x0.s)) rfl rfl rfl (by intro x hx; obtain ⟨⟨_, z0, q0⟩, ⟨_, z1, q1⟩, ⟨_, z2, q2⟩, ⟨_, z3, q3⟩, ⟨_, z4, q4⟩, ⟨_, z5, q5⟩⟩ := hx.at6 2 0 rfl; go_simp; all_goals rfl) ?_
 simp only [Blk.putC, setM, cS, sA, sB]
 refine ts 4 3 0 (cS (Sc.mk x1.t ((scalar_ordered_uint64 x0.u x1.u x2).2.1) x1.s)) rfl rfl rfl (by intro x hx; obtain ⟨⟨_, z0, q0⟩, ⟨_, z1, q1⟩, ⟨_, z2, q2⟩, ⟨_, z3, q3⟩, ⟨_, z4, q4⟩, ⟨_, z5, q5⟩⟩ := hx.at6 3 0 rfl; go_simp; all_goals rfl) ?_
 simp only [Blk.putC, setM, cS, sA, sB]
 refine ta 5 32 rfl rfl rfl rfl ?_
 simp only [sA, sB]
 clear HS
 refine td fun W3 HS => ?_
 go_wp2
 obtain ⟨r0, r1, r2, r3, r4, r5⟩ := HS.out.six 2 0 rfl rfl
 obtain ⟨r6, r7, r8, r9, r10, r11⟩ := HS.out.six 3 0 rfl rfl
 have HF : scalar_less x0 x1 x2 = (Sc.mk x0.t ((scalar_ordered_uint64 x0.u x1.u x2).1) x0.s, Sc.mk x1.t ((scalar_ordered_uint64 x0.u x1.u x2).2.1) x1.s, (scalar_ordered_uint64 x0.u x1.u x2).2.2) := by
  unfold scalar_less
  rfl
 exact bodyPost_ret (v := .tuple #[vS (Sc.mk x0.t ((scalar_ordered_uint64 x0.u x1.u x2).1) x0.s), vS (Sc.mk x1.t ((scalar_ordered_uint64 x0.u x1.u x2).2.1) x1.s), .bool ((scalar_ordered_uint64 x0.u x1.u x2).2.2)]) (by simp [results, Tryz.results96, go_sem, r0, r1, r2, r3, r4, r5, r6, r7, r8, r9, r10, r11, vS]) rfl ⟨(by first | (rw [HF]; done) | (rw [HF]; rfl)), HS.out.below⟩
def scalar_signedLess (x0 : Sc) (x1 : Sc) (x2 : BitVec 64)  : Sc × Sc × Bool :=
 (Sc.mk x0.t x0.u ((scalar_ordered_int64 x0.s x1.s x2).1), Sc.mk x1.t x1.u ((scalar_ordered_int64 x0.s x1.s x2).2.1), (scalar_ordered_int64 x0.s x1.s x2).2.2)
theorem scalar_signedLess_any (x0 : Sc) (x1 : Sc) (x2 : BitVec 64)   (w : World) :
  Calls Tryz.prog 97 #[vS x0, vS x1, .int .i64 (ti (x2))] w fun e w' => e = .returned (.tuple #[vS ((scalar_signedLess x0 x1 x2).1), vS ((scalar_signedLess x0 x1 x2).2.1), .bool ((scalar_signedLess x0 x1 x2).2.2)]) ∧ Below w.heap.size w w' := by
 simp only [vS]
 go_enter Tryz.func97, Tryz.ntmps97
 have HS : Hid (St w [⟨w.heap.size, [some (.int .u64 (tn (x0.t.lo))), some (.int .u64 (tn (x0.t.hi))), some (.int .u64 (tn (x0.u.lo))), some (.int .u64 (tn (x0.u.hi))), some (.int .i64 (ti (x0.s.lo))), some (.int .i64 (ti (x0.s.hi)))], 31⟩, ⟨w.heap.size + 1, [some (.int .u64 (tn (x1.t.lo))), some (.int .u64 (tn (x1.t.hi))), some (.int .u64 (tn (x1.u.lo))), some (.int .u64 (tn (x1.u.hi))), some (.int .i64 (ti (x1.s.lo))), some (.int .i64 (ti (x1.s.hi)))], 31⟩, ⟨w.heap.size + 2, [some (.int .u64 0), some (.int .u64 0), some (.int .u64 0), some (.int .u64 0), some (.int .i64 0), some (.int .i64 0)], 31⟩, ⟨w.heap.size + 3, [some (.int .u64 0), some (.int .u64 0), some (.int .u64 0), some (.int .u64 0), some (.int .i64 0), some (.int .i64 0)], 31⟩] _) := hid (((((st_nil w).alloc (k := w.heap.size) rfl [.int .u64 (tn (x0.t.lo)), .int .u64 (tn (x0.t.hi)), .int .u64 (tn (x0.u.lo)), .int .u64 (tn (x0.u.hi)), .int .i64 (ti (x0.s.lo)), .int .i64 (ti (x0.s.hi))] 31).alloc (k := w.heap.size + 1) (by simp) [.int .u64 (tn (x1.t.lo)), .int .u64 (tn (x1.t.hi)), .int .u64 (tn (x1.u.lo)), .int .u64 (tn (x1.u.hi)), .int .i64 (ti (x1.s.lo)), .int .i64 (ti (x1.s.hi))] 31).alloc (k := w.heap.size + 2) (by simp) [.int .u64 0, .int .u64 0, .int .u64 0, .int .u64 0, .int .i64 0, .int .i64 0] 31).alloc (k := w.heap.size + 3) (by simp) [.int .u64 0, .int .u64 0, .int .u64 0, .int .u64 0, .int .i64 0, .int .i64 0] 31)
 go_upto_region 1 with fail
 refine upb 17 (HS.out.drew) rfl ?_
 refine tv 0 (.pointer (some ⟨w.heap.size, 4, none⟩)) rfl rfl (by intro x hx; go_simp; all_goals exact rfl) ?_
 simp only [sA, sB]
 refine tv 1 (vI x0.s) rfl rfl (by intro x hx; obtain ⟨f0, f1⟩ := hx.two 0 4 rfl rfl; go_simp; all_goals exact rfl) ?_
 simp only [sA, sB, vI]
 refine tc 2 93 #[vI x0.s] (vI x0.s) rfl rfl (by intro x hx; exact scalar_signed_any x0.s _) ?_
 simp only [sA, sB, vI]
 refine tv 3 (.pointer (some ⟨w.heap.size + 1, 4, none⟩)) rfl rfl (by intro x hx; go_simp; all_goals exact rfl) ?_
 simp only [sA, sB]
 refine tv 4 (vI x1.s) rfl rfl (by intro x hx; obtain ⟨f0, f1⟩ := hx.two 1 4 rfl rfl; go_simp; all_goals exact rfl) ?_
 simp only [sA, sB, vI]
 refine tc 5 93 #[vI x1.s] (vI x1.s) rfl rfl (by intro x hx; exact scalar_signed_any x1.s _) ?_
 simp only [sA, sB, vI]
 refine tm 6 2 rfl rfl rfl rfl ?_
 simp only [sA, sB]
 refine tc 7 127 #[vI x0.s, vI x1.s, .int .i64 (ti (x2))] (.tuple #[vI ((scalar_ordered_int64 x0.s x1.s x2).1), vI ((scalar_ordered_int64 x0.s x1.s x2).2.1), .bool ((scalar_ordered_int64 x0.s x1.s x2).2.2)]) rfl rfl (by intro x hx; exact scalar_ordered_int64_any x0.s x1.s x2 _) ?_
 simp only [sA, sB, vI]
 refine tm 8 20 rfl rfl rfl rfl ?_
 simp only [sA, sB]
 refine tv 9 (vI ((scalar_ordered_int64 x0.s x1.s x2).1)) rfl rfl (by intro x hx; go_simp; all_goals exact rfl) ?_
 simp only [sA, sB, vI]
 refine tv 10 (vI ((scalar_ordered_int64 x0.s x1.s x2).2.1)) rfl rfl (by intro x hx; go_simp; all_goals exact rfl) ?_
 simp only [sA, sB, vI]
 refine tv 11 (.bool ((scalar_ordered_int64 x0.s x1.s x2).2.2)) rfl rfl (by intro x hx; go_simp; all_goals exact rfl) ?_
 simp only [sA, sB]
 refine take_two_new (i := 12) (j := 13) rfl rfl rfl rfl (by decide) (by decide) (by kernel_rfl) (by kernel_rfl) (by kernel_rfl) [.int .i64 0, .int .i64 0] 120 (fun k => .pointer (some ⟨k, 0, none⟩)) [none, none] (lessC_no (lessC_no (trivial))) [.int .i64 0, .int .i64 0] 120 (fun k => .pointer (some ⟨k, 0, none⟩)) [none, none] (lessC_no (lessC_no (trivial))) (by rfl) (by rfl) (fun k => by rfl) (fun k => by rfl) (by intro x hx; go_simp; all_goals exact rfl) (by intro x hx; go_simp; all_goals exact rfl) (by intro k x hx; go_simp; all_goals exact rfl) (by intro k x hx; go_simp; all_goals exact rfl) (fun k1 k2 => ?_)
 simp only [sA, sB, sC, sD]
 refine ts 14 4 0 (cI ((scalar_ordered_int64 x0.s x1.s x2).1)) rfl rfl rfl (by intro x hx; obtain ⟨⟨_, z0, q0⟩, ⟨_, z1, q1⟩⟩ := hx.at2 4 0 rfl; go_simp; all_goals rfl) ?_
 simp only [Blk.putC, setM, cI, sA, sB]
 refine ts 15 5 0 (cI ((scalar_ordered_int64 x0.s x1.s x2).2.1)) rfl rfl rfl (by intro x hx; obtain ⟨⟨_, z0, q0⟩, ⟨_, z1, q1⟩⟩ := hx.at2 5 0 rfl; go_simp; all_goals rfl) ?_
 simp only [Blk.putC, setM, cI, sA, sB]
 refine ta 16 23 rfl rfl rfl rfl ?_
 simp only [sA, sB]
 clear HS
 refine td fun W1 HS => ?_
 go_upto_region 2 with fail
 refine upb 8 (((HS.out.drew.forget 0 4 2 rfl).forget 1 4 2 rfl)) rfl ?_
 simp only [Blk.dropC, noneM, sA, sB]
 refine tv 0 (vI ((scalar_ordered_int64 x0.s x1.s x2).1)) rfl rfl (by intro x hx; obtain ⟨f0, f1⟩ := hx.two 4 0 rfl rfl; go_simp; all_goals exact rfl) ?_
 simp only [sA, sB, vI]
 refine tc 1 95 #[vI ((scalar_ordered_int64 x0.s x1.s x2).1)] (vI ((scalar_ordered_int64 x0.s x1.s x2).1)) rfl rfl (by intro x hx; exact scalar_toSigned_any ((scalar_ordered_int64 x0.s x1.s x2).1) _) ?_
 simp only [sA, sB, vI]
 refine tv 2 (vI ((scalar_ordered_int64 x0.s x1.s x2).2.1)) rfl rfl (by intro x hx; obtain ⟨f0, f1⟩ := hx.two 5 0 rfl rfl; go_simp; all_goals exact rfl) ?_
 simp only [sA, sB, vI]
 refine tc 3 95 #[vI ((scalar_ordered_int64 x0.s x1.s x2).2.1)] (vI ((scalar_ordered_int64 x0.s x1.s x2).2.1)) rfl rfl (by intro x hx; exact scalar_toSigned_any ((scalar_ordered_int64 x0.s x1.s x2).2.1) _) ?_
 simp only [sA, sB, vI]
 refine tv 4 (.pointer (some ⟨w.heap.size, 4, none⟩)) rfl rfl (by intro x hx; go_simp; all_goals exact rfl) ?_
 simp only [sA, sB]
 refine ts 5 0 4 (cI ((scalar_ordered_int64 x0.s x1.s x2).1)) rfl rfl rfl (by intro x hx; obtain ⟨⟨_, z0, q0⟩, ⟨_, z1, q1⟩⟩ := hx.at2 0 4 rfl; go_simp; all_goals rfl) ?_
 simp only [Blk.putC, setM, cI, sA, sB]
 refine tv 6 (.pointer (some ⟨w.heap.size + 1, 4, none⟩)) rfl rfl (by intro x hx; go_simp; all_goals exact rfl) ?_
 simp only [sA, sB]
 refine ts 7 1 4 (cI ((scalar_ordered_int64 x0.s x1.s x2).2.1)) rfl rfl rfl (by intro x hx; obtain ⟨⟨_, z0, q0⟩, ⟨_, z1, q1⟩⟩ := hx.at2 1 4 rfl; go_simp; all_goals rfl) ?_
 simp only [Blk.putC, setM, cI, sA, sB]
 clear HS
 refine td fun W2 HS => ?_
 go_upto_region 3 with fail
 refine upb 6 (((HS.out.drew.forget 2 0 6 rfl).forget 3 0 6 rfl)) rfl ?_
 simp only [Blk.dropC, noneM, sA, sB]
 refine tv 0 (vS (Sc.mk x0.t x0.u ((scalar_ordered_int64 x0.s x1.s x2).1))) rfl rfl (by intro x hx; obtain ⟨f0, f1, f2, f3, f4, f5⟩ := hx.six 0 0 rfl rfl; go_simp; all_goals exact rfl) ?_
 simp only [sA, sB, vS]
 refine tv 1 (vS (Sc.mk x1.t x1.u ((scalar_ordered_int64 x0.s x1.s x2).2.1))) rfl rfl (by intro x hx; obtain ⟨f0, f1, f2, f3, f4, f5⟩ := hx.six 1 0 rfl rfl; go_simp; all_goals exact rfl) ?_
 simp only [sA, sB, vS]
 refine tm 2 11 rfl rfl rfl rfl ?_
 simp only [sA, sB]
 refine ts 3 2 0 (cS (Sc.mk x0.t x0.u ((scalar_ordered_int64 x0.s x1.s x2).1))) rfl rfl rfl (by intro x hx; obtain ⟨⟨_, z0, q0⟩, ⟨_, z1, q1⟩, ⟨_, z2, q2⟩, ⟨_, z3, q3⟩, ⟨_, z4, q4⟩, ⟨_, z5, q5⟩⟩ := hx.at6 2 0 rfl; go_simp; all_goals rfl) ?_
 simp only [Blk.putC, setM, cS, sA, sB]
 refine ts 4 3 0 (cS (Sc.mk x1.t x1.u ((scalar_ordered_int64 x0.s x1.s x2).2.1))) rfl rfl rfl (by intro x hx; obtain ⟨⟨_, z0, q0⟩, ⟨_, z1, q1⟩, ⟨_, z2, q2⟩, ⟨_, z3, q3⟩, ⟨_, z4, q4⟩, ⟨_, z5, q5⟩⟩ := hx.at6 3 0 rfl; go_simp; all_goals rfl) ?_
 simp only [Blk.putC, setM, cS, sA, sB]
 refine ta 5 32 rfl rfl rfl rfl ?_
 simp only [sA, sB]
 clear HS
 refine td fun W3 HS => ?_
 go_wp2
 obtain ⟨r0, r1, r2, r3, r4, r5⟩ := HS.out.six 2 0 rfl rfl
 obtain ⟨r6, r7, r8, r9, r10, r11⟩ := HS.out.six 3 0 rfl rfl
 have HF : scalar_signedLess x0 x1 x2 = (Sc.mk x0.t x0.u ((scalar_ordered_int64 x0.s x1.s x2).1), Sc.mk x1.t x1.u ((scalar_ordered_int64 x0.s x1.s x2).2.1), (scalar_ordered_int64 x0.s x1.s x2).2.2) := by
  unfold scalar_signedLess
  rfl
 exact bodyPost_ret (v := .tuple #[vS (Sc.mk x0.t x0.u ((scalar_ordered_int64 x0.s x1.s x2).1)), vS (Sc.mk x1.t x1.u ((scalar_ordered_int64 x0.s x1.s x2).2.1)), .bool ((scalar_ordered_int64 x0.s x1.s x2).2.2)]) (by simp [results, Tryz.results97, go_sem, r0, r1, r2, r3, r4, r5, r6, r7, r8, r9, r10, r11, vS]) rfl ⟨(by first | (rw [HF]; done) | (rw [HF]; rfl)), HS.out.below⟩
def scalar_ranked (x0 : BitVec 64) (x1 : Sc) (x2 : Sc)  : Sc × Sc × Bool :=
 bif (x0 == 160#64) then (((scalar_less x1 x2 1#64).1, (scalar_less x1 x2 1#64).2.1, (scalar_less x1 x2 1#64).2.2)) else (bif (x0 == 176#64) then (((scalar_less x1 x2 0#64).1, (scalar_less x1 x2 0#64).2.1, (scalar_less x1 x2 0#64).2.2)) else (bif (x0 == 192#64) then (((scalar_signedLess x1 x2 1#64).1, (scalar_signedLess x1 x2 1#64).2.1, (scalar_signedLess x1 x2 1#64).2.2)) else (((scalar_signedLess x1 x2 0#64).1, (scalar_signedLess x1 x2 0#64).2.1, (scalar_signedLess x1 x2 0#64).2.2))))
theorem scalar_ranked_any (x0 : BitVec 64) (x1 : Sc) (x2 : Sc)   (w : World) :
   Calls Tryz.prog 41 #[.int .i64 (ti (x0)), vS x1, vS x2] w fun e w' => e = .returned (.tuple #[vS ((scalar_ranked x0 x1 x2).1), vS ((scalar_ranked x0 x1 x2).2.1), .bool ((scalar_ranked x0 x1 x2).2.2)]) ∧ Below w.heap.size w w' := by
 simp only [vS]
 go_enter Tryz.func41, Tryz.ntmps41
 have HS : Hid (St w [⟨w.heap.size, [some (.int .u64 (tn (x1.t.lo))), some (.int .u64 (tn (x1.t.hi))), some (.int .u64 (tn (x1.u.lo))), some (.int .u64 (tn (x1.u.hi))), some (.int .i64 (ti (x1.s.lo))), some (.int .i64 (ti (x1.s.hi)))], 31⟩, ⟨w.heap.size + 1, [some (.int .u64 (tn (x2.t.lo))), some (.int .u64 (tn (x2.t.hi))), some (.int .u64 (tn (x2.u.lo))), some (.int .u64 (tn (x2.u.hi))), some (.int .i64 (ti (x2.s.lo))), some (.int .i64 (ti (x2.s.hi)))], 31⟩, ⟨w.heap.size + 2, [some (.int .u64 0), some (.int .u64 0), some (.int .u64 0), some (.int .u64 0), some (.int .i64 0), some (.int .i64 0)], 31⟩, ⟨w.heap.size + 3, [some (.int .u64 0), some (.int .u64 0), some (.int .u64 0), some (.int .u64 0), some (.int .i64 0), some (.int .i64 0)], 31⟩] _) := hid (((((st_nil w).alloc (k := w.heap.size) rfl [.int .u64 (tn (x1.t.lo)), .int .u64 (tn (x1.t.hi)), .int .u64 (tn (x1.u.lo)), .int .u64 (tn (x1.u.hi)), .int .i64 (ti (x1.s.lo)), .int .i64 (ti (x1.s.hi))] 31).alloc (k := w.heap.size + 1) (by simp) [.int .u64 (tn (x2.t.lo)), .int .u64 (tn (x2.t.hi)), .int .u64 (tn (x2.u.lo)), .int .u64 (tn (x2.u.hi)), .int .i64 (ti (x2.s.lo)), .int .i64 (ti (x2.s.hi))] 31).alloc (k := w.heap.size + 2) (by simp) [.int .u64 0, .int .u64 0, .int .u64 0, .int .u64 0, .int .i64 0, .int .i64 0] 31).alloc (k := w.heap.size + 3) (by simp) [.int .u64 0, .int .u64 0, .int .u64 0, .int .u64 0, .int .i64 0, .int .i64 0] 31)
 go_upto_region 1 with fail
 refine lnb HS.out rfl ?_
 refine lm 0 0 rfl rfl rfl rfl ?_
 simp only [sA, sB]
 clear HS
 refine ld fun W1 HS => ?_
 go_upto_region 2 with fail
 refine lnb HS.out rfl ?_
 refine lv 0 (.bool ((x0 == 160#64))) rfl rfl (by intro x hx; go_simp; (first | done | exact eqIT x0 160#64 | exact congrArg _ (eqIT x0 160#64) | (rw [eqIT x0 160#64]; done) | (rw [eqIT x0 160#64]; rfl))) ?_
 simp only [sA, sB]
 refine la 1 11 rfl rfl rfl rfl ?_
 simp only [sA, sB]
 clear HS
 refine ld fun W2 HS => ?_
 cases h1 : ((x0 == 160#64))
 ·replace h1 := hid h1
  go_upto_region 4 with fail
  refine lnb HS.out rfl ?_
  refine lv 0 (.bool ((x0 == 176#64))) rfl rfl (by intro x hx; go_simp; (first | done | exact eqIT x0 176#64 | exact congrArg _ (eqIT x0 176#64) | (rw [eqIT x0 176#64]; done) | (rw [eqIT x0 176#64]; rfl))) ?_
  simp only [sA, sB]
  refine la 1 19 rfl rfl rfl rfl ?_
  simp only [sA, sB]
  clear HS
  refine ld fun W3 HS => ?_
  cases h2 : ((x0 == 176#64))
  ·replace h2 := hid h2
   go_upto_region 6 with fail
   refine lnb HS.out rfl ?_
   refine lv 0 (.bool ((x0 == 192#64))) rfl rfl (by intro x hx; go_simp; (first | done | exact eqIT x0 192#64 | exact congrArg _ (eqIT x0 192#64) | (rw [eqIT x0 192#64]; done) | (rw [eqIT x0 192#64]; rfl))) ?_
   simp only [sA, sB]
   refine la 1 27 rfl rfl rfl rfl ?_
   simp only [sA, sB]
   clear HS
   refine ld fun W4 HS => ?_
   cases h3 : ((x0 == 192#64))
   ·replace h3 := hid h3
    go_upto_region 8 with fail
    refine lnb HS.out rfl ?_
    refine lv 0 (vS x1) rfl rfl (by intro x hx; obtain ⟨f0, f1, f2, f3, f4, f5⟩ := hx.six 0 0 rfl rfl; go_simp; all_goals exact rfl) ?_
    simp only [sA, sB, vS]
    refine lv 1 (vS x2) rfl rfl (by intro x hx; obtain ⟨f0, f1, f2, f3, f4, f5⟩ := hx.six 1 0 rfl rfl; go_simp; all_goals exact rfl) ?_
    simp only [sA, sB, vS]
    refine lc 2 97 #[vS x1, vS x2, .int .i64 (ti (0#64))] (.tuple #[vS ((scalar_signedLess x1 x2 0#64).1), vS ((scalar_signedLess x1 x2 0#64).2.1), .bool ((scalar_signedLess x1 x2 0#64).2.2)]) rfl rfl (by intro x hx; exact scalar_signedLess_any x1 x2 0#64 _) ?_
    simp only [sA, sB, vS]
    refine lv 3 (vS ((scalar_signedLess x1 x2 0#64).1)) rfl rfl (by intro x hx; go_simp; all_goals exact rfl) ?_
    simp only [sA, sB, vS]
    refine lv 4 (vS ((scalar_signedLess x1 x2 0#64).2.1)) rfl rfl (by intro x hx; go_simp; all_goals exact rfl) ?_
    simp only [sA, sB, vS]
    refine lv 5 (.bool ((scalar_signedLess x1 x2 0#64).2.2)) rfl rfl (by intro x hx; go_simp; all_goals exact rfl) ?_
    simp only [sA, sB]
    refine ls 6 2 0 (cS ((scalar_signedLess x1 x2 0#64).1)) rfl rfl rfl (by intro x hx; obtain ⟨⟨_, z0, q0⟩, ⟨_, z1, q1⟩, ⟨_, z2, q2⟩, ⟨_, z3, q3⟩, ⟨_, z4, q4⟩, ⟨_, z5, q5⟩⟩ := hx.at6 2 0 rfl; go_simp; all_goals rfl) ?_
    simp only [Blk.putC, setM, cS, sA, sB]
    refine ls 7 3 0 (cS ((scalar_signedLess x1 x2 0#64).2.1)) rfl rfl rfl (by intro x hx; obtain ⟨⟨_, z0, q0⟩, ⟨_, z1, q1⟩, ⟨_, z2, q2⟩, ⟨_, z3, q3⟩, ⟨_, z4, q4⟩, ⟨_, z5, q5⟩⟩ := hx.at6 3 0 rfl; go_simp; all_goals rfl) ?_
    simp only [Blk.putC, setM, cS, sA, sB]
    refine la 8 39 rfl rfl rfl rfl ?_
    simp only [sA, sB]
    clear HS
    refine ld fun W5 HS => ?_
    go_wp2
    obtain ⟨r0, r1, r2, r3, r4, r5⟩ := HS.out.six 2 0 rfl rfl
    obtain ⟨r6, r7, r8, r9, r10, r11⟩ := HS.out.six 3 0 rfl rfl
    have HF : scalar_ranked x0 x1 x2 = ((scalar_signedLess x1 x2 0#64).1, (scalar_signedLess x1 x2 0#64).2.1, (scalar_signedLess x1 x2 0#64).2.2) := by
      unfold scalar_ranked
      rw [cond_f h1.out, cond_f h2.out, cond_f h3.out]
    exact bodyPost_ret (v := .tuple #[vS ((scalar_signedLess x1 x2 0#64).1), vS ((scalar_signedLess x1 x2 0#64).2.1), .bool ((scalar_signedLess x1 x2 0#64).2.2)]) (by simp [results, Tryz.results41, go_sem, r0, r1, r2, r3, r4, r5, r6, r7, r8, r9, r10, r11, vS]) rfl ⟨(by first | (rw [HF]; done) | (rw [HF]; rfl)), HS.out.below⟩
   ·replace h3 := hid h3
    go_upto_region 7 with fail
    refine lnb HS.out rfl ?_
    refine lv 0 (vS x1) rfl rfl (by intro x hx; obtain ⟨f0, f1, f2, f3, f4, f5⟩ := hx.six 0 0 rfl rfl; go_simp; all_goals exact rfl) ?_
    simp only [sA, sB, vS]
    refine lv 1 (vS x2) rfl rfl (by intro x hx; obtain ⟨f0, f1, f2, f3, f4, f5⟩ := hx.six 1 0 rfl rfl; go_simp; all_goals exact rfl) ?_
    simp only [sA, sB, vS]
    refine lc 2 97 #[vS x1, vS x2, .int .i64 (ti (1#64))] (.tuple #[vS ((scalar_signedLess x1 x2 1#64).1), vS ((scalar_signedLess x1 x2 1#64).2.1), .bool ((scalar_signedLess x1 x2 1#64).2.2)]) rfl rfl (by intro x hx; exact scalar_signedLess_any x1 x2 1#64 _) ?_
    simp only [sA, sB, vS]
    refine lv 3 (vS ((scalar_signedLess x1 x2 1#64).1)) rfl rfl (by intro x hx; go_simp; all_goals exact rfl) ?_
    simp only [sA, sB, vS]
    refine lv 4 (vS ((scalar_signedLess x1 x2 1#64).2.1)) rfl rfl (by intro x hx; go_simp; all_goals exact rfl) ?_
    simp only [sA, sB, vS]
    refine lv 5 (.bool ((scalar_signedLess x1 x2 1#64).2.2)) rfl rfl (by intro x hx; go_simp; all_goals exact rfl) ?_
    simp only [sA, sB]
    refine ls 6 2 0 (cS ((scalar_signedLess x1 x2 1#64).1)) rfl rfl rfl (by intro x hx; obtain ⟨⟨_, z0, q0⟩, ⟨_, z1, q1⟩, ⟨_, z2, q2⟩, ⟨_, z3, q3⟩, ⟨_, z4, q4⟩, ⟨_, z5, q5⟩⟩ := hx.at6 2 0 rfl; go_simp; all_goals rfl) ?_
    simp only [Blk.putC, setM, cS, sA, sB]
    refine ls 7 3 0 (cS ((scalar_signedLess x1 x2 1#64).2.1)) rfl rfl rfl (by intro x hx; obtain ⟨⟨_, z0, q0⟩, ⟨_, z1, q1⟩, ⟨_, z2, q2⟩, ⟨_, z3, q3⟩, ⟨_, z4, q4⟩, ⟨_, z5, q5⟩⟩ := hx.at6 3 0 rfl; go_simp; all_goals rfl) ?_
    simp only [Blk.putC, setM, cS, sA, sB]
    refine la 8 33 rfl rfl rfl rfl ?_
    simp only [sA, sB]
    clear HS
    refine ld fun W5 HS => ?_
    go_wp2
    obtain ⟨r0, r1, r2, r3, r4, r5⟩ := HS.out.six 2 0 rfl rfl
    obtain ⟨r6, r7, r8, r9, r10, r11⟩ := HS.out.six 3 0 rfl rfl
    have HF : scalar_ranked x0 x1 x2 = ((scalar_signedLess x1 x2 1#64).1, (scalar_signedLess x1 x2 1#64).2.1, (scalar_signedLess x1 x2 1#64).2.2) := by
      unfold scalar_ranked
      rw [cond_f h1.out, cond_f h2.out, cond_t h3.out]
    exact bodyPost_ret (v := .tuple #[vS ((scalar_signedLess x1 x2 1#64).1), vS ((scalar_signedLess x1 x2 1#64).2.1), .bool ((scalar_signedLess x1 x2 1#64).2.2)]) (by simp [results, Tryz.results41, go_sem, r0, r1, r2, r3, r4, r5, r6, r7, r8, r9, r10, r11, vS]) rfl ⟨(by first | (rw [HF]; done) | (rw [HF]; rfl)), HS.out.below⟩
  ·replace h2 := hid h2
   go_upto_region 5 with fail
   refine lnb HS.out rfl ?_
   refine lv 0 (vS x1) rfl rfl (by intro x hx; obtain ⟨f0, f1, f2, f3, f4, f5⟩ := hx.six 0 0 rfl rfl; go_simp; all_goals exact rfl) ?_
   simp only [sA, sB, vS]
   refine lv 1 (vS x2) rfl rfl (by intro x hx; obtain ⟨f0, f1, f2, f3, f4, f5⟩ := hx.six 1 0 rfl rfl; go_simp; all_goals exact rfl) ?_
   simp only [sA, sB, vS]
   refine lc 2 96 #[vS x1, vS x2, .int .u64 (tn (0#64))] (.tuple #[vS ((scalar_less x1 x2 0#64).1), vS ((scalar_less x1 x2 0#64).2.1), .bool ((scalar_less x1 x2 0#64).2.2)]) rfl rfl (by intro x hx; exact scalar_less_any x1 x2 0#64 _) ?_
   simp only [sA, sB, vS]
   refine lv 3 (vS ((scalar_less x1 x2 0#64).1)) rfl rfl (by intro x hx; go_simp; all_goals exact rfl) ?_
   simp only [sA, sB, vS]
   refine lv 4 (vS ((scalar_less x1 x2 0#64).2.1)) rfl rfl (by intro x hx; go_simp; all_goals exact rfl) ?_
   simp only [sA, sB, vS]
   refine lv 5 (.bool ((scalar_less x1 x2 0#64).2.2)) rfl rfl (by intro x hx; go_simp; all_goals exact rfl) ?_
   simp only [sA, sB]
   refine ls 6 2 0 (cS ((scalar_less x1 x2 0#64).1)) rfl rfl rfl (by intro x hx; obtain ⟨⟨_, z0, q0⟩, ⟨_, z1, q1⟩, ⟨_, z2, q2⟩, ⟨_, z3, q3⟩, ⟨_, z4, q4⟩, ⟨_, z5, q5⟩⟩ := hx.at6 2 0 rfl; go_simp; all_goals rfl) ?_
   simp only [Blk.putC, setM, cS, sA, sB]
   refine ls 7 3 0 (cS ((scalar_less x1 x2 0#64).2.1)) rfl rfl rfl (by intro x hx; obtain ⟨⟨_, z0, q0⟩, ⟨_, z1, q1⟩, ⟨_, z2, q2⟩, ⟨_, z3, q3⟩, ⟨_, z4, q4⟩, ⟨_, z5, q5⟩⟩ := hx.at6 3 0 rfl; go_simp; all_goals rfl) ?_
   simp only [Blk.putC, setM, cS, sA, sB]
   refine la 8 25 rfl rfl rfl rfl ?_
   simp only [sA, sB]
   clear HS
   refine ld fun W4 HS => ?_
   go_wp2
   obtain ⟨r0, r1, r2, r3, r4, r5⟩ := HS.out.six 2 0 rfl rfl
   obtain ⟨r6, r7, r8, r9, r10, r11⟩ := HS.out.six 3 0 rfl rfl
   have HF : scalar_ranked x0 x1 x2 = ((scalar_less x1 x2 0#64).1, (scalar_less x1 x2 0#64).2.1, (scalar_less x1 x2 0#64).2.2) := by
     unfold scalar_ranked
     rw [cond_f h1.out, cond_t h2.out]
   exact bodyPost_ret (v := .tuple #[vS ((scalar_less x1 x2 0#64).1), vS ((scalar_less x1 x2 0#64).2.1), .bool ((scalar_less x1 x2 0#64).2.2)]) (by simp [results, Tryz.results41, go_sem, r0, r1, r2, r3, r4, r5, r6, r7, r8, r9, r10, r11, vS]) rfl ⟨(by first | (rw [HF]; done) | (rw [HF]; rfl)), HS.out.below⟩
 ·replace h1 := hid h1
  go_upto_region 3 with fail
  refine lnb HS.out rfl ?_
  refine lv 0 (vS x1) rfl rfl (by intro x hx; obtain ⟨f0, f1, f2, f3, f4, f5⟩ := hx.six 0 0 rfl rfl; go_simp; all_goals exact rfl) ?_
  simp only [sA, sB, vS]
  refine lv 1 (vS x2) rfl rfl (by intro x hx; obtain ⟨f0, f1, f2, f3, f4, f5⟩ := hx.six 1 0 rfl rfl; go_simp; all_goals exact rfl) ?_
  simp only [sA, sB, vS]
  refine lc 2 96 #[vS x1, vS x2, .int .u64 (tn (1#64))] (.tuple #[vS ((scalar_less x1 x2 1#64).1), vS ((scalar_less x1 x2 1#64).2.1), .bool ((scalar_less x1 x2 1#64).2.2)]) rfl rfl (by intro x hx; exact scalar_less_any x1 x2 1#64 _) ?_
  simp only [sA, sB, vS]
  refine lv 3 (vS ((scalar_less x1 x2 1#64).1)) rfl rfl (by intro x hx; go_simp; all_goals exact rfl) ?_
  simp only [sA, sB, vS]
  refine lv 4 (vS ((scalar_less x1 x2 1#64).2.1)) rfl rfl (by intro x hx; go_simp; all_goals exact rfl) ?_
  simp only [sA, sB, vS]
  refine lv 5 (.bool ((scalar_less x1 x2 1#64).2.2)) rfl rfl (by intro x hx; go_simp; all_goals exact rfl) ?_
  simp only [sA, sB]
  refine ls 6 2 0 (cS ((scalar_less x1 x2 1#64).1)) rfl rfl rfl (by intro x hx; obtain ⟨⟨_, z0, q0⟩, ⟨_, z1, q1⟩, ⟨_, z2, q2⟩, ⟨_, z3, q3⟩, ⟨_, z4, q4⟩, ⟨_, z5, q5⟩⟩ := hx.at6 2 0 rfl; go_simp; all_goals rfl) ?_
  simp only [Blk.putC, setM, cS, sA, sB]
  refine ls 7 3 0 (cS ((scalar_less x1 x2 1#64).2.1)) rfl rfl rfl (by intro x hx; obtain ⟨⟨_, z0, q0⟩, ⟨_, z1, q1⟩, ⟨_, z2, q2⟩, ⟨_, z3, q3⟩, ⟨_, z4, q4⟩, ⟨_, z5, q5⟩⟩ := hx.at6 3 0 rfl; go_simp; all_goals rfl) ?_
  simp only [Blk.putC, setM, cS, sA, sB]
  refine la 8 17 rfl rfl rfl rfl ?_
  simp only [sA, sB]
  clear HS
  refine ld fun W3 HS => ?_
  go_wp2
  obtain ⟨r0, r1, r2, r3, r4, r5⟩ := HS.out.six 2 0 rfl rfl
  obtain ⟨r6, r7, r8, r9, r10, r11⟩ := HS.out.six 3 0 rfl rfl
  have HF : scalar_ranked x0 x1 x2 = ((scalar_less x1 x2 1#64).1, (scalar_less x1 x2 1#64).2.1, (scalar_less x1 x2 1#64).2.2) := by
    unfold scalar_ranked
    rw [cond_t h1.out]
  exact bodyPost_ret (v := .tuple #[vS ((scalar_less x1 x2 1#64).1), vS ((scalar_less x1 x2 1#64).2.1), .bool ((scalar_less x1 x2 1#64).2.2)]) (by simp [results, Tryz.results41, go_sem, r0, r1, r2, r3, r4, r5, r6, r7, r8, r9, r10, r11, vS]) rfl ⟨(by first | (rw [HF]; done) | (rw [HF]; rfl)), HS.out.below⟩
def scalar_bounded (x0 : BitVec 64) (x1 : Sc) (x2 : Sc) (x3 : Bool)  : Sc × Sc × Bool :=
 bif (x0 == 64#64) then (((scalar_common x1 x2 x3).1, (scalar_common x1 x2 x3).2.1, (scalar_common x1 x2 x3).2.2)) else (bif (!x3) then (bif ((partner5 x0) == 16#64) then (((scalar_same x1 x2).1, (scalar_same x1 x2).2.1, (scalar_same x1 x2).2.2)) else (bif ((partner5 x0) == 80#64) then (((scalar_differ x1 x2).1, (scalar_differ x1 x2).2.1, (scalar_differ x1 x2).2.2)) else (bif ((partner5 x0) == 32#64) then (((scalar_ranked (partner4 (partner5 x0)) x2 x1).2.1, (scalar_ranked (partner4 (partner5 x0)) x2 x1).1, (scalar_ranked (partner4 (partner5 x0)) x2 x1).2.2)) else (bif ((partner5 x0) == 48#64) then (((scalar_ranked (partner4 (partner5 x0)) x2 x1).2.1, (scalar_ranked (partner4 (partner5 x0)) x2 x1).1, (scalar_ranked (partner4 (partner5 x0)) x2 x1).2.2)) else (bif ((partner5 x0) == 96#64) then (((scalar_ranked (partner4 (partner5 x0)) x2 x1).2.1, (scalar_ranked (partner4 (partner5 x0)) x2 x1).1, (scalar_ranked (partner4 (partner5 x0)) x2 x1).2.2)) else (bif ((partner5 x0) == 112#64) then (((scalar_ranked (partner4 (partner5 x0)) x2 x1).2.1, (scalar_ranked (partner4 (partner5 x0)) x2 x1).1, (scalar_ranked (partner4 (partner5 x0)) x2 x1).2.2)) else (((scalar_ranked (partner5 x0) x1 x2).1, (scalar_ranked (partner5 x0) x1 x2).2.1, (scalar_ranked (partner5 x0) x1 x2).2.2)))))))) else (bif (x0 == 16#64) then (((scalar_same x1 x2).1, (scalar_same x1 x2).2.1, (scalar_same x1 x2).2.2)) else (bif (x0 == 80#64) then (((scalar_differ x1 x2).1, (scalar_differ x1 x2).2.1, (scalar_differ x1 x2).2.2)) else (bif (x0 == 32#64) then (((scalar_ranked (partner4 x0) x2 x1).2.1, (scalar_ranked (partner4 x0) x2 x1).1, (scalar_ranked (partner4 x0) x2 x1).2.2)) else (bif (x0 == 48#64) then (((scalar_ranked (partner4 x0) x2 x1).2.1, (scalar_ranked (partner4 x0) x2 x1).1, (scalar_ranked (partner4 x0) x2 x1).2.2)) else (bif (x0 == 96#64) then (((scalar_ranked (partner4 x0) x2 x1).2.1, (scalar_ranked (partner4 x0) x2 x1).1, (scalar_ranked (partner4 x0) x2 x1).2.2)) else (bif (x0 == 112#64) then (((scalar_ranked (partner4 x0) x2 x1).2.1, (scalar_ranked (partner4 x0) x2 x1).1, (scalar_ranked (partner4 x0) x2 x1).2.2)) else (((scalar_ranked x0 x1 x2).1, (scalar_ranked x0 x1 x2).2.1, (scalar_ranked x0 x1 x2).2.2)))))))))
theorem scalar_bounded_any (x0 : BitVec 64) (x1 : Sc) (x2 : Sc) (x3 : Bool)   (w : World) :
   Calls Tryz.prog 17 #[.int .i64 (ti (x0)), vS x1, vS x2, .bool (x3)] w fun e w' => e = .returned (.tuple #[vS ((scalar_bounded x0 x1 x2 x3).1), vS ((scalar_bounded x0 x1 x2 x3).2.1), .bool ((scalar_bounded x0 x1 x2 x3).2.2)]) ∧ Below w.heap.size w w' := by
 simp only [vS]
 go_enter Tryz.func17, Tryz.ntmps17
 have HS : Hid (St w [⟨w.heap.size, [some (.int .u64 (tn (x1.t.lo))), some (.int .u64 (tn (x1.t.hi))), some (.int .u64 (tn (x1.u.lo))), some (.int .u64 (tn (x1.u.hi))), some (.int .i64 (ti (x1.s.lo))), some (.int .i64 (ti (x1.s.hi)))], 31⟩, ⟨w.heap.size + 1, [some (.int .u64 (tn (x2.t.lo))), some (.int .u64 (tn (x2.t.hi))), some (.int .u64 (tn (x2.u.lo))), some (.int .u64 (tn (x2.u.hi))), some (.int .i64 (ti (x2.s.lo))), some (.int .i64 (ti (x2.s.hi)))], 31⟩, ⟨w.heap.size + 2, [some (.int .u64 0), some (.int .u64 0), some (.int .u64 0), some (.int .u64 0), some (.int .i64 0), some (.int .i64 0)], 31⟩, ⟨w.heap.size + 3, [some (.int .u64 0), some (.int .u64 0), some (.int .u64 0), some (.int .u64 0), some (.int .i64 0), some (.int .i64 0)], 31⟩] _) := hid (((((st_nil w).alloc (k := w.heap.size) rfl [.int .u64 (tn (x1.t.lo)), .int .u64 (tn (x1.t.hi)), .int .u64 (tn (x1.u.lo)), .int .u64 (tn (x1.u.hi)), .int .i64 (ti (x1.s.lo)), .int .i64 (ti (x1.s.hi))] 31).alloc (k := w.heap.size + 1) (by simp) [.int .u64 (tn (x2.t.lo)), .int .u64 (tn (x2.t.hi)), .int .u64 (tn (x2.u.lo)), .int .u64 (tn (x2.u.hi)), .int .i64 (ti (x2.s.lo)), .int .i64 (ti (x2.s.hi))] 31).alloc (k := w.heap.size + 2) (by simp) [.int .u64 0, .int .u64 0, .int .u64 0, .int .u64 0, .int .i64 0, .int .i64 0] 31).alloc (k := w.heap.size + 3) (by simp) [.int .u64 0, .int .u64 0, .int .u64 0, .int .u64 0, .int .i64 0, .int .i64 0] 31)
 go_upto_region 1 with fail
 refine lnb HS.out rfl ?_
 refine lm 0 0 rfl rfl rfl rfl ?_
 simp only [sA, sB]
 refine lv 1 (.bool ((x0 == 64#64))) rfl rfl (by intro x hx; go_simp; (first | done | exact eqIT x0 64#64 | exact congrArg _ (eqIT x0 64#64) | (rw [eqIT x0 64#64]; done) | (rw [eqIT x0 64#64]; rfl))) ?_
 simp only [sA, sB]
 clear HS
 refine ld fun W1 HS => ?_
 cases h1 : ((x0 == 64#64))
 ·replace h1 := hid h1
  go_upto_region 3 with fail
  refine lnb HS.out rfl ?_
  refine lm 0 3 rfl rfl rfl rfl ?_
  simp only [sA, sB]
  refine lv 1 (.bool ((!x3))) rfl rfl (by intro x hx; go_simp; all_goals exact rfl) ?_
  simp only [sA, sB]
  clear HS
  refine ld fun W2 HS => ?_
  cases h2 : ((!x3))
  ·replace h2 := hid h2
   go_upto_region 5 with fail
   refine lnb HS.out rfl ?_
   refine lm 0 0 rfl rfl rfl rfl ?_
   simp only [sA, sB]
   clear HS
   refine ld fun W3 HS => ?_
   go_upto_region 6 with fail
   refine lnb HS.out rfl ?_
   refine lv 0 (.bool ((x0 == 16#64))) rfl rfl (by intro x hx; go_simp; (first | done | exact eqIT x0 16#64 | exact congrArg _ (eqIT x0 16#64) | (rw [eqIT x0 16#64]; done) | (rw [eqIT x0 16#64]; rfl))) ?_
   simp only [sA, sB]
   refine la 1 29 rfl rfl rfl rfl ?_
   simp only [sA, sB]
   clear HS
   refine ld fun W4 HS => ?_
   cases h3 : ((x0 == 16#64))
   ·replace h3 := hid h3
    go_upto_region 8 with fail
    refine lnb HS.out rfl ?_
    refine lv 0 (.bool ((x0 == 80#64))) rfl rfl (by intro x hx; go_simp; (first | done | exact eqIT x0 80#64 | exact congrArg _ (eqIT x0 80#64) | (rw [eqIT x0 80#64]; done) | (rw [eqIT x0 80#64]; rfl))) ?_
    simp only [sA, sB]
    refine la 1 37 rfl rfl rfl rfl ?_
    simp only [sA, sB]
    clear HS
    refine ld fun W5 HS => ?_
    cases h4 : ((x0 == 80#64))
    ·replace h4 := hid h4
     go_upto_region 10 with fail
     refine lnb HS.out rfl ?_
     refine lv 0 (.bool ((x0 == 32#64))) rfl rfl (by intro x hx; go_simp; (first | done | exact eqIT x0 32#64 | exact congrArg _ (eqIT x0 32#64) | (rw [eqIT x0 32#64]; done) | (rw [eqIT x0 32#64]; rfl))) ?_
     simp only [sA, sB]
     refine la 1 45 rfl rfl rfl rfl ?_
     simp only [sA, sB]
     clear HS
     refine ld fun W6 HS => ?_
     cases h5 : ((x0 == 32#64))
     ·replace h5 := hid h5
      go_upto_region 11 with fail
      refine lnb HS.out rfl ?_
      refine lv 0 (.bool ((x0 == 48#64))) rfl rfl (by intro x hx; go_simp; (first | done | exact eqIT x0 48#64 | exact congrArg _ (eqIT x0 48#64) | (rw [eqIT x0 48#64]; done) | (rw [eqIT x0 48#64]; rfl))) ?_
      simp only [sA, sB]
      refine la 1 46 rfl rfl rfl rfl ?_
      simp only [sA, sB]
      clear HS
      refine ld fun W7 HS => ?_
      cases h6 : ((x0 == 48#64))
      ·replace h6 := hid h6
       go_upto_region 12 with fail
       refine lnb HS.out rfl ?_
       refine lv 0 (.bool ((x0 == 96#64))) rfl rfl (by intro x hx; go_simp; (first | done | exact eqIT x0 96#64 | exact congrArg _ (eqIT x0 96#64) | (rw [eqIT x0 96#64]; done) | (rw [eqIT x0 96#64]; rfl))) ?_
       simp only [sA, sB]
       refine la 1 47 rfl rfl rfl rfl ?_
       simp only [sA, sB]
       clear HS
       refine ld fun W8 HS => ?_
       cases h7 : ((x0 == 96#64))
       ·replace h7 := hid h7
        go_upto_region 13 with fail
        refine lnb HS.out rfl ?_
        refine lv 0 (.bool ((x0 == 112#64))) rfl rfl (by intro x hx; go_simp; (first | done | exact eqIT x0 112#64 | exact congrArg _ (eqIT x0 112#64) | (rw [eqIT x0 112#64]; done) | (rw [eqIT x0 112#64]; rfl))) ?_
        simp only [sA, sB]
        refine la 1 48 rfl rfl rfl rfl ?_
        simp only [sA, sB]
        clear HS
        refine ld fun W9 HS => ?_
        cases h8 : ((x0 == 112#64))
        ·replace h8 := hid h8
         go_upto_region 16 with fail
         refine lnb HS.out rfl ?_
         refine lm 0 0 rfl rfl rfl rfl ?_
         simp only [sA, sB]
         refine lv 1 (vS x1) rfl rfl (by intro x hx; obtain ⟨f0, f1, f2, f3, f4, f5⟩ := hx.six 0 0 rfl rfl; go_simp; all_goals exact rfl) ?_
         simp only [sA, sB, vS]
         refine lv 2 (vS x2) rfl rfl (by intro x hx; obtain ⟨f0, f1, f2, f3, f4, f5⟩ := hx.six 1 0 rfl rfl; go_simp; all_goals exact rfl) ?_
         simp only [sA, sB, vS]
         refine lc 3 41 #[.int .i64 (ti (x0)), vS x1, vS x2] (.tuple #[vS ((scalar_ranked x0 x1 x2).1), vS ((scalar_ranked x0 x1 x2).2.1), .bool ((scalar_ranked x0 x1 x2).2.2)]) rfl rfl (by intro x hx; exact scalar_ranked_any x0 x1 x2 _) ?_
         simp only [sA, sB, vS]
         refine lv 4 (vS ((scalar_ranked x0 x1 x2).1)) rfl rfl (by intro x hx; go_simp; all_goals exact rfl) ?_
         simp only [sA, sB, vS]
         refine lv 5 (vS ((scalar_ranked x0 x1 x2).2.1)) rfl rfl (by intro x hx; go_simp; all_goals exact rfl) ?_
         simp only [sA, sB, vS]
         refine lv 6 (.bool ((scalar_ranked x0 x1 x2).2.2)) rfl rfl (by intro x hx; go_simp; all_goals exact rfl) ?_
         simp only [sA, sB]
         refine ls 7 2 0 (cS ((scalar_ranked x0 x1 x2).1)) rfl rfl rfl (by intro x hx; obtain ⟨⟨_, z0, q0⟩, ⟨_, z1, q1⟩, ⟨_, z2, q2⟩, ⟨_, z3, q3⟩, ⟨_, z4, q4⟩, ⟨_, z5, q5⟩⟩ := hx.at6 2 0 rfl; go_simp; all_goals rfl) ?_
         simp only [Blk.putC, setM, cS, sA, sB]
         refine ls 8 3 0 (cS ((scalar_ranked x0 x1 x2).2.1)) rfl rfl rfl (by intro x hx; obtain ⟨⟨_, z0, q0⟩, ⟨_, z1, q1⟩, ⟨_, z2, q2⟩, ⟨_, z3, q3⟩, ⟨_, z4, q4⟩, ⟨_, z5, q5⟩⟩ := hx.at6 3 0 rfl; go_simp; all_goals rfl) ?_
         simp only [Blk.putC, setM, cS, sA, sB]
         refine la 9 67 rfl rfl rfl rfl ?_
         simp only [sA, sB]
         clear HS
         refine ld fun W10 HS => ?_
         go_wp2
         obtain ⟨r0, r1, r2, r3, r4, r5⟩ := HS.out.six 2 0 rfl rfl
         obtain ⟨r6, r7, r8, r9, r10, r11⟩ := HS.out.six 3 0 rfl rfl
         have HF : scalar_bounded x0 x1 x2 x3 = ((scalar_ranked x0 x1 x2).1, (scalar_ranked x0 x1 x2).2.1, (scalar_ranked x0 x1 x2).2.2) := by
           unfold scalar_bounded
           rw [cond_f h1.out, cond_f h2.out, cond_f h3.out, cond_f h4.out, cond_f h5.out, cond_f h6.out, cond_f h7.out, cond_f h8.out]
         exact bodyPost_ret (v := .tuple #[vS ((scalar_ranked x0 x1 x2).1), vS ((scalar_ranked x0 x1 x2).2.1), .bool ((scalar_ranked x0 x1 x2).2.2)]) (by simp [results, Tryz.results17, go_sem, r0, r1, r2, r3, r4, r5, r6, r7, r8, r9, r10, r11, vS]) rfl ⟨(by first | (rw [HF]; done) | (rw [HF]; rfl)), HS.out.below⟩
        ·replace h8 := hid h8
         go_upto_region 14 with fail
         refine upb 14 (HS.out.drew) rfl ?_
         refine tm 0 0 rfl rfl rfl rfl ?_
         simp only [sA, sB]
         refine tc 1 42 #[.int .i64 (ti (x0))] (.int .i64 (ti (partner4 x0))) rfl rfl (by intro x hx; exact scalar_turned_any x0 _) ?_
         simp only [sA, sB]
         refine tv 2 (vS x2) rfl rfl (by intro x hx; obtain ⟨f0, f1, f2, f3, f4, f5⟩ := hx.six 1 0 rfl rfl; go_simp; all_goals exact rfl) ?_
         simp only [sA, sB, vS]
         refine tv 3 (vS x1) rfl rfl (by intro x hx; obtain ⟨f0, f1, f2, f3, f4, f5⟩ := hx.six 0 0 rfl rfl; go_simp; all_goals exact rfl) ?_
         simp only [sA, sB, vS]
         refine tc 4 41 #[.int .i64 (ti (partner4 x0)), vS x2, vS x1] (.tuple #[vS ((scalar_ranked (partner4 x0) x2 x1).1), vS ((scalar_ranked (partner4 x0) x2 x1).2.1), .bool ((scalar_ranked (partner4 x0) x2 x1).2.2)]) rfl rfl (by intro x hx; exact scalar_ranked_any (partner4 x0) x2 x1 _) ?_
         simp only [sA, sB, vS]
         refine tm 5 54 rfl rfl rfl rfl ?_
         simp only [sA, sB]
         refine tv 6 (vS ((scalar_ranked (partner4 x0) x2 x1).1)) rfl rfl (by intro x hx; go_simp; all_goals exact rfl) ?_
         simp only [sA, sB, vS]
         refine tv 7 (vS ((scalar_ranked (partner4 x0) x2 x1).2.1)) rfl rfl (by intro x hx; go_simp; all_goals exact rfl) ?_
         simp only [sA, sB, vS]
         refine tv 8 (.bool ((scalar_ranked (partner4 x0) x2 x1).2.2)) rfl rfl (by intro x hx; go_simp; all_goals exact rfl) ?_
         simp only [sA, sB]
         refine take_two_new (i := 9) (j := 10) rfl rfl rfl rfl (by decide) (by decide) (by kernel_rfl) (by kernel_rfl) (by kernel_rfl) [.int .u64 0, .int .u64 0, .int .u64 0, .int .u64 0, .int .i64 0, .int .i64 0] 31 (fun k => .pointer (some ⟨k, 0, none⟩)) [none, none, none, none, none, none] (lessC_no (lessC_no (lessC_no (lessC_no (lessC_no (lessC_no (trivial))))))) [.int .u64 0, .int .u64 0, .int .u64 0, .int .u64 0, .int .i64 0, .int .i64 0] 31 (fun k => .pointer (some ⟨k, 0, none⟩)) [none, none, none, none, none, none] (lessC_no (lessC_no (lessC_no (lessC_no (lessC_no (lessC_no (trivial))))))) (by rfl) (by rfl) (fun k => by rfl) (fun k => by rfl) (by intro x hx; go_simp; all_goals exact rfl) (by intro x hx; go_simp; all_goals exact rfl) (by intro k x hx; go_simp; all_goals exact rfl) (by intro k x hx; go_simp; all_goals exact rfl) (fun k1 k2 => ?_)
         simp only [sA, sB, sC, sD]
         refine ts 11 4 0 (cS ((scalar_ranked (partner4 x0) x2 x1).1)) rfl rfl rfl (by intro x hx; obtain ⟨⟨_, z0, q0⟩, ⟨_, z1, q1⟩, ⟨_, z2, q2⟩, ⟨_, z3, q3⟩, ⟨_, z4, q4⟩, ⟨_, z5, q5⟩⟩ := hx.at6 4 0 rfl; go_simp; all_goals rfl) ?_
         simp only [Blk.putC, setM, cS, sA, sB]
         refine ts 12 5 0 (cS ((scalar_ranked (partner4 x0) x2 x1).2.1)) rfl rfl rfl (by intro x hx; obtain ⟨⟨_, z0, q0⟩, ⟨_, z1, q1⟩, ⟨_, z2, q2⟩, ⟨_, z3, q3⟩, ⟨_, z4, q4⟩, ⟨_, z5, q5⟩⟩ := hx.at6 5 0 rfl; go_simp; all_goals rfl) ?_
         simp only [Blk.putC, setM, cS, sA, sB]
         refine ta 13 57 rfl rfl rfl rfl ?_
         simp only [sA, sB]
         clear HS
         refine td fun W10 HS => ?_
         go_upto_region 15 with fail
         refine upb 6 (((HS.out.drew.forget 2 0 6 rfl).forget 3 0 6 rfl)) rfl ?_
         simp only [Blk.dropC, noneM, sA, sB]
         refine tv 0 (vS ((scalar_ranked (partner4 x0) x2 x1).2.1)) rfl rfl (by intro x hx; obtain ⟨f0, f1, f2, f3, f4, f5⟩ := hx.six 5 0 rfl rfl; go_simp; all_goals exact rfl) ?_
         simp only [sA, sB, vS]
         refine tv 1 (vS ((scalar_ranked (partner4 x0) x2 x1).1)) rfl rfl (by intro x hx; obtain ⟨f0, f1, f2, f3, f4, f5⟩ := hx.six 4 0 rfl rfl; go_simp; all_goals exact rfl) ?_
         simp only [sA, sB, vS]
         refine tm 2 13 rfl rfl rfl rfl ?_
         simp only [sA, sB]
         refine ts 3 2 0 (cS ((scalar_ranked (partner4 x0) x2 x1).2.1)) rfl rfl rfl (by intro x hx; obtain ⟨⟨_, z0, q0⟩, ⟨_, z1, q1⟩, ⟨_, z2, q2⟩, ⟨_, z3, q3⟩, ⟨_, z4, q4⟩, ⟨_, z5, q5⟩⟩ := hx.at6 2 0 rfl; go_simp; all_goals rfl) ?_
         simp only [Blk.putC, setM, cS, sA, sB]
         refine ts 4 3 0 (cS ((scalar_ranked (partner4 x0) x2 x1).1)) rfl rfl rfl (by intro x hx; obtain ⟨⟨_, z0, q0⟩, ⟨_, z1, q1⟩, ⟨_, z2, q2⟩, ⟨_, z3, q3⟩, ⟨_, z4, q4⟩, ⟨_, z5, q5⟩⟩ := hx.at6 3 0 rfl; go_simp; all_goals rfl) ?_
         simp only [Blk.putC, setM, cS, sA, sB]
         refine ta 5 60 rfl rfl rfl rfl ?_
         simp only [sA, sB]
         clear HS
         refine td fun W11 HS => ?_
         go_wp2
         obtain ⟨r0, r1, r2, r3, r4, r5⟩ := HS.out.six 2 0 rfl rfl
         obtain ⟨r6, r7, r8, r9, r10, r11⟩ := HS.out.six 3 0 rfl rfl
         have HF : scalar_bounded x0 x1 x2 x3 = ((scalar_ranked (partner4 x0) x2 x1).2.1, (scalar_ranked (partner4 x0) x2 x1).1, (scalar_ranked (partner4 x0) x2 x1).2.2) := by
           unfold scalar_bounded
           rw [cond_f h1.out, cond_f h2.out, cond_f h3.out, cond_f h4.out, cond_f h5.out, cond_f h6.out, cond_f h7.out, cond_t h8.out]
         exact bodyPost_ret (v := .tuple #[vS ((scalar_ranked (partner4 x0) x2 x1).2.1), vS ((scalar_ranked (partner4 x0) x2 x1).1), .bool ((scalar_ranked (partner4 x0) x2 x1).2.2)]) (by simp [results, Tryz.results17, go_sem, r0, r1, r2, r3, r4, r5, r6, r7, r8, r9, r10, r11, vS]) rfl ⟨(by first | (rw [HF]; done) | (rw [HF]; rfl)), HS.out.below⟩
       ·replace h7 := hid h7
        go_upto_region 14 with fail
        refine upb 14 (HS.out.drew) rfl ?_
        refine tm 0 0 rfl rfl rfl rfl ?_
        simp only [sA, sB]
        refine tc 1 42 #[.int .i64 (ti (x0))] (.int .i64 (ti (partner4 x0))) rfl rfl (by intro x hx; exact scalar_turned_any x0 _) ?_
        simp only [sA, sB]
        refine tv 2 (vS x2) rfl rfl (by intro x hx; obtain ⟨f0, f1, f2, f3, f4, f5⟩ := hx.six 1 0 rfl rfl; go_simp; all_goals exact rfl) ?_
        simp only [sA, sB, vS]
        refine tv 3 (vS x1) rfl rfl (by intro x hx; obtain ⟨f0, f1, f2, f3, f4, f5⟩ := hx.six 0 0 rfl rfl; go_simp; all_goals exact rfl) ?_
        simp only [sA, sB, vS]
        refine tc 4 41 #[.int .i64 (ti (partner4 x0)), vS x2, vS x1] (.tuple #[vS ((scalar_ranked (partner4 x0) x2 x1).1), vS ((scalar_ranked (partner4 x0) x2 x1).2.1), .bool ((scalar_ranked (partner4 x0) x2 x1).2.2)]) rfl rfl (by intro x hx; exact scalar_ranked_any (partner4 x0) x2 x1 _) ?_
        simp only [sA, sB, vS]
        refine tm 5 54 rfl rfl rfl rfl ?_
        simp only [sA, sB]
        refine tv 6 (vS ((scalar_ranked (partner4 x0) x2 x1).1)) rfl rfl (by intro x hx; go_simp; all_goals exact rfl) ?_
        simp only [sA, sB, vS]
        refine tv 7 (vS ((scalar_ranked (partner4 x0) x2 x1).2.1)) rfl rfl (by intro x hx; go_simp; all_goals exact rfl) ?_
        simp only [sA, sB, vS]
        refine tv 8 (.bool ((scalar_ranked (partner4 x0) x2 x1).2.2)) rfl rfl (by intro x hx; go_simp; all_goals exact rfl) ?_
        simp only [sA, sB]
        refine take_two_new (i := 9) (j := 10) rfl rfl rfl rfl (by decide) (by decide) (by kernel_rfl) (by kernel_rfl) (by kernel_rfl) [.int .u64 0, .int .u64 0, .int .u64 0, .int .u64 0, .int .i64 0, .int .i64 0] 31 (fun k => .pointer (some ⟨k, 0, none⟩)) [none, none, none, none, none, none] (lessC_no (lessC_no (lessC_no (lessC_no (lessC_no (lessC_no (trivial))))))) [.int .u64 0, .int .u64 0, .int .u64 0, .int .u64 0, .int .i64 0, .int .i64 0] 31 (fun k => .pointer (some ⟨k, 0, none⟩)) [none, none, none, none, none, none] (lessC_no (lessC_no (lessC_no (lessC_no (lessC_no (lessC_no (trivial))))))) (by rfl) (by rfl) (fun k => by rfl) (fun k => by rfl) (by intro x hx; go_simp; all_goals exact rfl) (by intro x hx; go_simp; all_goals exact rfl) (by intro k x hx; go_simp; all_goals exact rfl) (by intro k x hx; go_simp; all_goals exact rfl) (fun k1 k2 => ?_)
        simp only [sA, sB, sC, sD]
        refine ts 11 4 0 (cS ((scalar_ranked (partner4 x0) x2 x1).1)) rfl rfl rfl (by intro x hx; obtain ⟨⟨_, z0, q0⟩, ⟨_, z1, q1⟩, ⟨_, z2, q2⟩, ⟨_, z3, q3⟩, ⟨_, z4, q4⟩, ⟨_, z5, q5⟩⟩ := hx.at6 4 0 rfl; go_simp; all_goals rfl) ?_
        simp only [Blk.putC, setM, cS, sA, sB]
        refine ts 12 5 0 (cS ((scalar_ranked (partner4 x0) x2 x1).2.1)) rfl rfl rfl (by intro x hx; obtain ⟨⟨_, z0, q0⟩, ⟨_, z1, q1⟩, ⟨_, z2, q2⟩, ⟨_, z3, q3⟩, ⟨_, z4, q4⟩, ⟨_, z5, q5⟩⟩ := hx.at6 5 0 rfl; go_simp; all_goals rfl) ?_
        simp only [Blk.putC, setM, cS, sA, sB]
        refine ta 13 57 rfl rfl rfl rfl ?_
        simp only [sA, sB]
        clear HS
        refine td fun W9 HS => ?_
        go_upto_region 15 with fail
        refine upb 6 (((HS.out.drew.forget 2 0 6 rfl).forget 3 0 6 rfl)) rfl ?_
        simp only [Blk.dropC, noneM, sA, sB]
        refine tv 0 (vS ((scalar_ranked (partner4 x0) x2 x1).2.1)) rfl rfl (by intro x hx; obtain ⟨f0, f1, f2, f3, f4, f5⟩ := hx.six 5 0 rfl rfl; go_simp; all_goals exact rfl) ?_
        simp only [sA, sB, vS]
        refine tv 1 (vS ((scalar_ranked (partner4 x0) x2 x1).1)) rfl rfl (by intro x hx; obtain ⟨f0, f1, f2, f3, f4, f5⟩ := hx.six 4 0 rfl rfl; go_simp; all_goals exact rfl) ?_
        simp only [sA, sB, vS]
        refine tm 2 13 rfl rfl rfl rfl ?_
        simp only [sA, sB]
        refine ts 3 2 0 (cS ((scalar_ranked (partner4 x0) x2 x1).2.1)) rfl rfl rfl (by intro x hx; obtain ⟨⟨_, z0, q0⟩, ⟨_, z1, q1⟩, ⟨_, z2, q2⟩, ⟨_, z3, q3⟩, ⟨_, z4, q4⟩, ⟨_, z5, q5⟩⟩ := hx.at6 2 0 rfl; go_simp; all_goals rfl) ?_
        simp only [Blk.putC, setM, cS, sA, sB]
        refine ts 4 3 0 (cS ((scalar_ranked (partner4 x0) x2 x1).1)) rfl rfl rfl (by intro x hx; obtain ⟨⟨_, z0, q0⟩, ⟨_, z1, q1⟩, ⟨_, z2, q2⟩, ⟨_, z3, q3⟩, ⟨_, z4, q4⟩, ⟨_, z5, q5⟩⟩ := hx.at6 3 0 rfl; go_simp; all_goals rfl) ?_
        simp only [Blk.putC, setM, cS, sA, sB]
        refine ta 5 60 rfl rfl rfl rfl ?_
        simp only [sA, sB]
        clear HS
        refine td fun W10 HS => ?_
        go_wp2
        obtain ⟨r0, r1, r2, r3, r4, r5⟩ := HS.out.six 2 0 rfl rfl
        obtain ⟨r6, r7, r8, r9, r10, r11⟩ := HS.out.six 3 0 rfl rfl
        have HF : scalar_bounded x0 x1 x2 x3 = ((scalar_ranked (partner4 x0) x2 x1).2.1, (scalar_ranked (partner4 x0) x2 x1).1, (scalar_ranked (partner4 x0) x2 x1).2.2) := by
          unfold scalar_bounded
          rw [cond_f h1.out, cond_f h2.out, cond_f h3.out, cond_f h4.out, cond_f h5.out, cond_f h6.out, cond_t h7.out]
        exact bodyPost_ret (v := .tuple #[vS ((scalar_ranked (partner4 x0) x2 x1).2.1), vS ((scalar_ranked (partner4 x0) x2 x1).1), .bool ((scalar_ranked (partner4 x0) x2 x1).2.2)]) (by simp [results, Tryz.results17, go_sem, r0, r1, r2, r3, r4, r5, r6, r7, r8, r9, r10, r11, vS]) rfl ⟨(by first | (rw [HF]; done) | (rw [HF]; rfl)), HS.out.below⟩
      ·replace h6 := hid h6
       go_upto_region 14 with fail
       refine upb 14 (HS.out.drew) rfl ?_
       refine tm 0 0 rfl rfl rfl rfl ?_
       simp only [sA, sB]
       refine tc 1 42 #[.int .i64 (ti (x0))] (.int .i64 (ti (partner4 x0))) rfl rfl (by intro x hx; exact scalar_turned_any x0 _) ?_
       simp only [sA, sB]
       refine tv 2 (vS x2) rfl rfl (by intro x hx; obtain ⟨f0, f1, f2, f3, f4, f5⟩ := hx.six 1 0 rfl rfl; go_simp; all_goals exact rfl) ?_
       simp only [sA, sB, vS]
       refine tv 3 (vS x1) rfl rfl (by intro x hx; obtain ⟨f0, f1, f2, f3, f4, f5⟩ := hx.six 0 0 rfl rfl; go_simp; all_goals exact rfl) ?_
       simp only [sA, sB, vS]
       refine tc 4 41 #[.int .i64 (ti (partner4 x0)), vS x2, vS x1] (.tuple #[vS ((scalar_ranked (partner4 x0) x2 x1).1), vS ((scalar_ranked (partner4 x0) x2 x1).2.1), .bool ((scalar_ranked (partner4 x0) x2 x1).2.2)]) rfl rfl (by intro x hx; exact scalar_ranked_any (partner4 x0) x2 x1 _) ?_
       simp only [sA, sB, vS]
       refine tm 5 54 rfl rfl rfl rfl ?_
       simp only [sA, sB]
       refine tv 6 (vS ((scalar_ranked (partner4 x0) x2 x1).1)) rfl rfl (by intro x hx; go_simp; all_goals exact rfl) ?_
       simp only [sA, sB, vS]
       refine tv 7 (vS ((scalar_ranked (partner4 x0) x2 x1).2.1)) rfl rfl (by intro x hx; go_simp; all_goals exact rfl) ?_
       simp only [sA, sB, vS]
       refine tv 8 (.bool ((scalar_ranked (partner4 x0) x2 x1).2.2)) rfl rfl (by intro x hx; go_simp; all_goals exact rfl) ?_
       simp only [sA, sB]
       refine take_two_new (i := 9) (j := 10) rfl rfl rfl rfl (by decide) (by decide) (by kernel_rfl) (by kernel_rfl) (by kernel_rfl) [.int .u64 0, .int .u64 0, .int .u64 0, .int .u64 0, .int .i64 0, .int .i64 0] 31 (fun k => .pointer (some ⟨k, 0, none⟩)) [none, none, none, none, none, none] (lessC_no (lessC_no (lessC_no (lessC_no (lessC_no (lessC_no (trivial))))))) [.int .u64 0, .int .u64 0, .int .u64 0, .int .u64 0, .int .i64 0, .int .i64 0] 31 (fun k => .pointer (some ⟨k, 0, none⟩)) [none, none, none, none, none, none] (lessC_no (lessC_no (lessC_no (lessC_no (lessC_no (lessC_no (trivial))))))) (by rfl) (by rfl) (fun k => by rfl) (fun k => by rfl) (by intro x hx; go_simp; all_goals exact rfl) (by intro x hx; go_simp; all_goals exact rfl) (by intro k x hx; go_simp; all_goals exact rfl) (by intro k x hx; go_simp; all_goals exact rfl) (fun k1 k2 => ?_)
       simp only [sA, sB, sC, sD]
       refine ts 11 4 0 (cS ((scalar_ranked (partner4 x0) x2 x1).1)) rfl rfl rfl (by intro x hx; obtain ⟨⟨_, z0, q0⟩, ⟨_, z1, q1⟩, ⟨_, z2, q2⟩, ⟨_, z3, q3⟩, ⟨_, z4, q4⟩, ⟨_, z5, q5⟩⟩ := hx.at6 4 0 rfl; go_simp; all_goals rfl) ?_
       simp only [Blk.putC, setM, cS, sA, sB]
       refine ts 12 5 0 (cS ((scalar_ranked (partner4 x0) x2 x1).2.1)) rfl rfl rfl (by intro x hx; obtain ⟨⟨_, z0, q0⟩, ⟨_, z1, q1⟩, ⟨_, z2, q2⟩, ⟨_, z3, q3⟩, ⟨_, z4, q4⟩, ⟨_, z5, q5⟩⟩ := hx.at6 5 0 rfl; go_simp; all_goals rfl) ?_
       simp only [Blk.putC, setM, cS, sA, sB]
       refine ta 13 57 rfl rfl rfl rfl ?_
       simp only [sA, sB]
       clear HS
       refine td fun W8 HS => ?_
       go_upto_region 15 with fail
       refine upb 6 (((HS.out.drew.forget 2 0 6 rfl).forget 3 0 6 rfl)) rfl ?_
       simp only [Blk.dropC, noneM, sA, sB]
       refine tv 0 (vS ((scalar_ranked (partner4 x0) x2 x1).2.1)) rfl rfl (by intro x hx; obtain ⟨f0, f1, f2, f3, f4, f5⟩ := hx.six 5 0 rfl rfl; go_simp; all_goals exact rfl) ?_
       simp only [sA, sB, vS]
       refine tv 1 (vS ((scalar_ranked (partner4 x0) x2 x1).1)) rfl rfl (by intro x hx; obtain ⟨f0, f1, f2, f3, f4, f5⟩ := hx.six 4 0 rfl rfl; go_simp; all_goals exact rfl) ?_
       simp only [sA, sB, vS]
       refine tm 2 13 rfl rfl rfl rfl ?_
       simp only [sA, sB]
       refine ts 3 2 0 (cS ((scalar_ranked (partner4 x0) x2 x1).2.1)) rfl rfl rfl (by intro x hx; obtain ⟨⟨_, z0, q0⟩, ⟨_, z1, q1⟩, ⟨_, z2, q2⟩, ⟨_, z3, q3⟩, ⟨_, z4, q4⟩, ⟨_, z5, q5⟩⟩ := hx.at6 2 0 rfl; go_simp; all_goals rfl) ?_
       simp only [Blk.putC, setM, cS, sA, sB]
       refine ts 4 3 0 (cS ((scalar_ranked (partner4 x0) x2 x1).1)) rfl rfl rfl (by intro x hx; obtain ⟨⟨_, z0, q0⟩, ⟨_, z1, q1⟩, ⟨_, z2, q2⟩, ⟨_, z3, q3⟩, ⟨_, z4, q4⟩, ⟨_, z5, q5⟩⟩ := hx.at6 3 0 rfl; go_simp; all_goals rfl) ?_
       simp only [Blk.putC, setM, cS, sA, sB]
       refine ta 5 60 rfl rfl rfl rfl ?_
       simp only [sA, sB]
       clear HS
       refine td fun W9 HS => ?_
       go_wp2
       obtain ⟨r0, r1, r2, r3, r4, r5⟩ := HS.out.six 2 0 rfl rfl
       obtain ⟨r6, r7, r8, r9, r10, r11⟩ := HS.out.six 3 0 rfl rfl
       have HF : scalar_bounded x0 x1 x2 x3 = ((scalar_ranked (partner4 x0) x2 x1).2.1, (scalar_ranked (partner4 x0) x2 x1).1, (scalar_ranked (partner4 x0) x2 x1).2.2) := by
         unfold scalar_bounded
         rw [cond_f h1.out, cond_f h2.out, cond_f h3.out, cond_f h4.out, cond_f h5.out, cond_t h6.out]
       exact bodyPost_ret (v := .tuple #[vS ((scalar_ranked (partner4 x0) x2 x1).2.1), vS ((scalar_ranked (partner4 x0) x2 x1).1), .bool ((scalar_ranked (partner4 x0) x2 x1).2.2)]) (by simp [results, Tryz.results17, go_sem, r0, r1, r2, r3, r4, r5, r6, r7, r8, r9, r10, r11, vS]) rfl ⟨(by first | (rw [HF]; done) | (rw [HF]; rfl)), HS.out.below⟩
     ·replace h5 := hid h5
      go_upto_region 14 with fail
      refine upb 14 (HS.out.drew) rfl ?_
      refine tm 0 0 rfl rfl rfl rfl ?_
      simp only [sA, sB]
      refine tc 1 42 #[.int .i64 (ti (x0))] (.int .i64 (ti (partner4 x0))) rfl rfl (by intro x hx; exact scalar_turned_any x0 _) ?_
      simp only [sA, sB]
      refine tv 2 (vS x2) rfl rfl (by intro x hx; obtain ⟨f0, f1, f2, f3, f4, f5⟩ := hx.six 1 0 rfl rfl; go_simp; all_goals exact rfl) ?_
      simp only [sA, sB, vS]
      refine tv 3 (vS x1) rfl rfl (by intro x hx; obtain ⟨f0, f1, f2, f3, f4, f5⟩ := hx.six 0 0 rfl rfl; go_simp; all_goals exact rfl) ?_
      simp only [sA, sB, vS]
      refine tc 4 41 #[.int .i64 (ti (partner4 x0)), vS x2, vS x1] (.tuple #[vS ((scalar_ranked (partner4 x0) x2 x1).1), vS ((scalar_ranked (partner4 x0) x2 x1).2.1), .bool ((scalar_ranked (partner4 x0) x2 x1).2.2)]) rfl rfl (by intro x hx; exact scalar_ranked_any (partner4 x0) x2 x1 _) ?_
      simp only [sA, sB, vS]
      refine tm 5 54 rfl rfl rfl rfl ?_
      simp only [sA, sB]
      refine tv 6 (vS ((scalar_ranked (partner4 x0) x2 x1).1)) rfl rfl (by intro x hx; go_simp; all_goals exact rfl) ?_
      simp only [sA, sB, vS]
      refine tv 7 (vS ((scalar_ranked (partner4 x0) x2 x1).2.1)) rfl rfl (by intro x hx; go_simp; all_goals exact rfl) ?_
      simp only [sA, sB, vS]
      refine tv 8 (.bool ((scalar_ranked (partner4 x0) x2 x1).2.2)) rfl rfl (by intro x hx; go_simp; all_goals exact rfl) ?_
      simp only [sA, sB]
      refine take_two_new (i := 9) (j := 10) rfl rfl rfl rfl (by decide) (by decide) (by kernel_rfl) (by kernel_rfl) (by kernel_rfl) [.int .u64 0, .int .u64 0, .int .u64 0, .int .u64 0, .int .i64 0, .int .i64 0] 31 (fun k => .pointer (some ⟨k, 0, none⟩)) [none, none, none, none, none, none] (lessC_no (lessC_no (lessC_no (lessC_no (lessC_no (lessC_no (trivial))))))) [.int .u64 0, .int .u64 0, .int .u64 0, .int .u64 0, .int .i64 0, .int .i64 0] 31 (fun k => .pointer (some ⟨k, 0, none⟩)) [none, none, none, none, none, none] (lessC_no (lessC_no (lessC_no (lessC_no (lessC_no (lessC_no (trivial))))))) (by rfl) (by rfl) (fun k => by rfl) (fun k => by rfl) (by intro x hx; go_simp; all_goals exact rfl) (by intro x hx; go_simp; all_goals exact rfl) (by intro k x hx; go_simp; all_goals exact rfl) (by intro k x hx; go_simp; all_goals exact rfl) (fun k1 k2 => ?_)
      simp only [sA, sB, sC, sD]
      refine ts 11 4 0 (cS ((scalar_ranked (partner4 x0) x2 x1).1)) rfl rfl rfl (by intro x hx; obtain ⟨⟨_, z0, q0⟩, ⟨_, z1, q1⟩, ⟨_, z2, q2⟩, ⟨_, z3, q3⟩, ⟨_, z4, q4⟩, ⟨_, z5, q5⟩⟩ := hx.at6 4 0 rfl; go_simp; all_goals rfl) ?_
      simp only [Blk.putC, setM, cS, sA, sB]
      refine ts 12 5 0 (cS ((scalar_ranked (partner4 x0) x2 x1).2.1)) rfl rfl rfl (by intro x hx; obtain ⟨⟨_, z0, q0⟩, ⟨_, z1, q1⟩, ⟨_, z2, q2⟩, ⟨_, z3, q3⟩, ⟨_, z4, q4⟩, ⟨_, z5, q5⟩⟩ := hx.at6 5 0 rfl; go_simp; all_goals rfl) ?_
      simp only [Blk.putC, setM, cS, sA, sB]
      refine ta 13 57 rfl rfl rfl rfl ?_
      simp only [sA, sB]
      clear HS
      refine td fun W7 HS => ?_
      go_upto_region 15 with fail
      refine upb 6 (((HS.out.drew.forget 2 0 6 rfl).forget 3 0 6 rfl)) rfl ?_
      simp only [Blk.dropC, noneM, sA, sB]
      refine tv 0 (vS ((scalar_ranked (partner4 x0) x2 x1).2.1)) rfl rfl (by intro x hx; obtain ⟨f0, f1, f2, f3, f4, f5⟩ := hx.six 5 0 rfl rfl; go_simp; all_goals exact rfl) ?_
      simp only [sA, sB, vS]
      refine tv 1 (vS ((scalar_ranked (partner4 x0) x2 x1).1)) rfl rfl (by intro x hx; obtain ⟨f0, f1, f2, f3, f4, f5⟩ := hx.six 4 0 rfl rfl; go_simp; all_goals exact rfl) ?_
      simp only [sA, sB, vS]
      refine tm 2 13 rfl rfl rfl rfl ?_
      simp only [sA, sB]
      refine ts 3 2 0 (cS ((scalar_ranked (partner4 x0) x2 x1).2.1)) rfl rfl rfl (by intro x hx; obtain ⟨⟨_, z0, q0⟩, ⟨_, z1, q1⟩, ⟨_, z2, q2⟩, ⟨_, z3, q3⟩, ⟨_, z4, q4⟩, ⟨_, z5, q5⟩⟩ := hx.at6 2 0 rfl; go_simp; all_goals rfl) ?_
      simp only [Blk.putC, setM, cS, sA, sB]
      refine ts 4 3 0 (cS ((scalar_ranked (partner4 x0) x2 x1).1)) rfl rfl rfl (by intro x hx; obtain ⟨⟨_, z0, q0⟩, ⟨_, z1, q1⟩, ⟨_, z2, q2⟩, ⟨_, z3, q3⟩, ⟨_, z4, q4⟩, ⟨_, z5, q5⟩⟩ := hx.at6 3 0 rfl; go_simp; all_goals rfl) ?_
      simp only [Blk.putC, setM, cS, sA, sB]
      refine ta 5 60 rfl rfl rfl rfl ?_
      simp only [sA, sB]
      clear HS
      refine td fun W8 HS => ?_
      go_wp2
      obtain ⟨r0, r1, r2, r3, r4, r5⟩ := HS.out.six 2 0 rfl rfl
      obtain ⟨r6, r7, r8, r9, r10, r11⟩ := HS.out.six 3 0 rfl rfl
      have HF : scalar_bounded x0 x1 x2 x3 = ((scalar_ranked (partner4 x0) x2 x1).2.1, (scalar_ranked (partner4 x0) x2 x1).1, (scalar_ranked (partner4 x0) x2 x1).2.2) := by
        unfold scalar_bounded
        rw [cond_f h1.out, cond_f h2.out, cond_f h3.out, cond_f h4.out, cond_t h5.out]
      exact bodyPost_ret (v := .tuple #[vS ((scalar_ranked (partner4 x0) x2 x1).2.1), vS ((scalar_ranked (partner4 x0) x2 x1).1), .bool ((scalar_ranked (partner4 x0) x2 x1).2.2)]) (by simp [results, Tryz.results17, go_sem, r0, r1, r2, r3, r4, r5, r6, r7, r8, r9, r10, r11, vS]) rfl ⟨(by first | (rw [HF]; done) | (rw [HF]; rfl)), HS.out.below⟩
    ·replace h4 := hid h4
     go_upto_region 9 with fail
     refine lnb HS.out rfl ?_
     refine lv 0 (vS x1) rfl rfl (by intro x hx; obtain ⟨f0, f1, f2, f3, f4, f5⟩ := hx.six 0 0 rfl rfl; go_simp; all_goals exact rfl) ?_
     simp only [sA, sB, vS]
     refine lv 1 (vS x2) rfl rfl (by intro x hx; obtain ⟨f0, f1, f2, f3, f4, f5⟩ := hx.six 1 0 rfl rfl; go_simp; all_goals exact rfl) ?_
     simp only [sA, sB, vS]
     refine lc 2 40 #[vS x1, vS x2] (.tuple #[vS ((scalar_differ x1 x2).1), vS ((scalar_differ x1 x2).2.1), .bool ((scalar_differ x1 x2).2.2)]) rfl rfl (by intro x hx; exact scalar_differ_any x1 x2 _) ?_
     simp only [sA, sB, vS]
     refine lv 3 (vS ((scalar_differ x1 x2).1)) rfl rfl (by intro x hx; go_simp; all_goals exact rfl) ?_
     simp only [sA, sB, vS]
     refine lv 4 (vS ((scalar_differ x1 x2).2.1)) rfl rfl (by intro x hx; go_simp; all_goals exact rfl) ?_
     simp only [sA, sB, vS]
     refine lv 5 (.bool ((scalar_differ x1 x2).2.2)) rfl rfl (by intro x hx; go_simp; all_goals exact rfl) ?_
     simp only [sA, sB]
     refine ls 6 2 0 (cS ((scalar_differ x1 x2).1)) rfl rfl rfl (by intro x hx; obtain ⟨⟨_, z0, q0⟩, ⟨_, z1, q1⟩, ⟨_, z2, q2⟩, ⟨_, z3, q3⟩, ⟨_, z4, q4⟩, ⟨_, z5, q5⟩⟩ := hx.at6 2 0 rfl; go_simp; all_goals rfl) ?_
     simp only [Blk.putC, setM, cS, sA, sB]
     refine ls 7 3 0 (cS ((scalar_differ x1 x2).2.1)) rfl rfl rfl (by intro x hx; obtain ⟨⟨_, z0, q0⟩, ⟨_, z1, q1⟩, ⟨_, z2, q2⟩, ⟨_, z3, q3⟩, ⟨_, z4, q4⟩, ⟨_, z5, q5⟩⟩ := hx.at6 3 0 rfl; go_simp; all_goals rfl) ?_
     simp only [Blk.putC, setM, cS, sA, sB]
     refine la 8 43 rfl rfl rfl rfl ?_
     simp only [sA, sB]
     clear HS
     refine ld fun W6 HS => ?_
     go_wp2
     obtain ⟨r0, r1, r2, r3, r4, r5⟩ := HS.out.six 2 0 rfl rfl
     obtain ⟨r6, r7, r8, r9, r10, r11⟩ := HS.out.six 3 0 rfl rfl
     have HF : scalar_bounded x0 x1 x2 x3 = ((scalar_differ x1 x2).1, (scalar_differ x1 x2).2.1, (scalar_differ x1 x2).2.2) := by
       unfold scalar_bounded
       rw [cond_f h1.out, cond_f h2.out, cond_f h3.out, cond_t h4.out]
     exact bodyPost_ret (v := .tuple #[vS ((scalar_differ x1 x2).1), vS ((scalar_differ x1 x2).2.1), .bool ((scalar_differ x1 x2).2.2)]) (by simp [results, Tryz.results17, go_sem, r0, r1, r2, r3, r4, r5, r6, r7, r8, r9, r10, r11, vS]) rfl ⟨(by first | (rw [HF]; done) | (rw [HF]; rfl)), HS.out.below⟩
   ·replace h3 := hid h3
    go_upto_region 7 with fail
    refine lnb HS.out rfl ?_
    refine lv 0 (vS x1) rfl rfl (by intro x hx; obtain ⟨f0, f1, f2, f3, f4, f5⟩ := hx.six 0 0 rfl rfl; go_simp; all_goals exact rfl) ?_
    simp only [sA, sB, vS]
    refine lv 1 (vS x2) rfl rfl (by intro x hx; obtain ⟨f0, f1, f2, f3, f4, f5⟩ := hx.six 1 0 rfl rfl; go_simp; all_goals exact rfl) ?_
    simp only [sA, sB, vS]
    refine lc 2 39 #[vS x1, vS x2] (.tuple #[vS ((scalar_same x1 x2).1), vS ((scalar_same x1 x2).2.1), .bool ((scalar_same x1 x2).2.2)]) rfl rfl (by intro x hx; exact scalar_same_any x1 x2 _) ?_
    simp only [sA, sB, vS]
    refine lv 3 (vS ((scalar_same x1 x2).1)) rfl rfl (by intro x hx; go_simp; all_goals exact rfl) ?_
    simp only [sA, sB, vS]
    refine lv 4 (vS ((scalar_same x1 x2).2.1)) rfl rfl (by intro x hx; go_simp; all_goals exact rfl) ?_
    simp only [sA, sB, vS]
    refine lv 5 (.bool ((scalar_same x1 x2).2.2)) rfl rfl (by intro x hx; go_simp; all_goals exact rfl) ?_
    simp only [sA, sB]
    refine ls 6 2 0 (cS ((scalar_same x1 x2).1)) rfl rfl rfl (by intro x hx; obtain ⟨⟨_, z0, q0⟩, ⟨_, z1, q1⟩, ⟨_, z2, q2⟩, ⟨_, z3, q3⟩, ⟨_, z4, q4⟩, ⟨_, z5, q5⟩⟩ := hx.at6 2 0 rfl; go_simp; all_goals rfl) ?_
    simp only [Blk.putC, setM, cS, sA, sB]
    refine ls 7 3 0 (cS ((scalar_same x1 x2).2.1)) rfl rfl rfl (by intro x hx; obtain ⟨⟨_, z0, q0⟩, ⟨_, z1, q1⟩, ⟨_, z2, q2⟩, ⟨_, z3, q3⟩, ⟨_, z4, q4⟩, ⟨_, z5, q5⟩⟩ := hx.at6 3 0 rfl; go_simp; all_goals rfl) ?_
    simp only [Blk.putC, setM, cS, sA, sB]
    refine la 8 35 rfl rfl rfl rfl ?_
    simp only [sA, sB]
    clear HS
    refine ld fun W5 HS => ?_
    go_wp2
    obtain ⟨r0, r1, r2, r3, r4, r5⟩ := HS.out.six 2 0 rfl rfl
    obtain ⟨r6, r7, r8, r9, r10, r11⟩ := HS.out.six 3 0 rfl rfl
    have HF : scalar_bounded x0 x1 x2 x3 = ((scalar_same x1 x2).1, (scalar_same x1 x2).2.1, (scalar_same x1 x2).2.2) := by
      unfold scalar_bounded
      rw [cond_f h1.out, cond_f h2.out, cond_t h3.out]
    exact bodyPost_ret (v := .tuple #[vS ((scalar_same x1 x2).1), vS ((scalar_same x1 x2).2.1), .bool ((scalar_same x1 x2).2.2)]) (by simp [results, Tryz.results17, go_sem, r0, r1, r2, r3, r4, r5, r6, r7, r8, r9, r10, r11, vS]) rfl ⟨(by first | (rw [HF]; done) | (rw [HF]; rfl)), HS.out.below⟩
  ·replace h2 := hid h2
   go_upto_region 4 with fail
   refine lnb HS.out rfl ?_
   refine lm 0 0 rfl rfl rfl rfl ?_
   simp only [sA, sB]
   refine lc 1 38 #[.int .i64 (ti (x0))] (.int .i64 (ti (partner5 x0))) rfl rfl (by intro x hx; exact scalar_other_any x0 _) ?_
   simp only [sA, sB]
   refine la 2 26 rfl rfl rfl rfl ?_
   simp only [sB]
   clear HS
   refine ld fun W3 HS => ?_
   go_upto_region 5 with fail
   refine lnb HS.out rfl ?_
   refine lm 0 0 rfl rfl rfl rfl ?_
   simp only [sA, sB]
   clear HS
   refine ld fun W4 HS => ?_
   go_upto_region 6 with fail
   refine lnb HS.out rfl ?_
   refine lv 0 (.bool (((partner5 x0) == 16#64))) rfl rfl (by intro x hx; go_simp; (first | done | exact eqIT (partner5 x0) 16#64 | exact congrArg _ (eqIT (partner5 x0) 16#64) | (rw [eqIT (partner5 x0) 16#64]; done) | (rw [eqIT (partner5 x0) 16#64]; rfl))) ?_
   simp only [sA, sB]
   refine la 1 29 rfl rfl rfl rfl ?_
   simp only [sA, sB]
   clear HS
   refine ld fun W5 HS => ?_
   cases h3 : (((partner5 x0) == 16#64))
   ·replace h3 := hid h3
    go_upto_region 8 with fail
    refine lnb HS.out rfl ?_
    refine lv 0 (.bool (((partner5 x0) == 80#64))) rfl rfl (by intro x hx; go_simp; (first | done | exact eqIT (partner5 x0) 80#64 | exact congrArg _ (eqIT (partner5 x0) 80#64) | (rw [eqIT (partner5 x0) 80#64]; done) | (rw [eqIT (partner5 x0) 80#64]; rfl))) ?_
    simp only [sA, sB]
    refine la 1 37 rfl rfl rfl rfl ?_
    simp only [sA, sB]
    clear HS
    refine ld fun W6 HS => ?_
    cases h4 : (((partner5 x0) == 80#64))
    ·replace h4 := hid h4
     go_upto_region 10 with fail
     refine lnb HS.out rfl ?_
     refine lv 0 (.bool (((partner5 x0) == 32#64))) rfl rfl (by intro x hx; go_simp; (first | done | exact eqIT (partner5 x0) 32#64 | exact congrArg _ (eqIT (partner5 x0) 32#64) | (rw [eqIT (partner5 x0) 32#64]; done) | (rw [eqIT (partner5 x0) 32#64]; rfl))) ?_
     simp only [sA, sB]
     refine la 1 45 rfl rfl rfl rfl ?_
     simp only [sA, sB]
     clear HS
     refine ld fun W7 HS => ?_
     cases h5 : (((partner5 x0) == 32#64))
     ·replace h5 := hid h5
      go_upto_region 11 with fail
      refine lnb HS.out rfl ?_
      refine lv 0 (.bool (((partner5 x0) == 48#64))) rfl rfl (by intro x hx; go_simp; (first | done | exact eqIT (partner5 x0) 48#64 | exact congrArg _ (eqIT (partner5 x0) 48#64) | (rw [eqIT (partner5 x0) 48#64]; done) | (rw [eqIT (partner5 x0) 48#64]; rfl))) ?_
      simp only [sA, sB]
      refine la 1 46 rfl rfl rfl rfl ?_
      simp only [sA, sB]
      clear HS
      refine ld fun W8 HS => ?_
      cases h6 : (((partner5 x0) == 48#64))
      ·replace h6 := hid h6
       go_upto_region 12 with fail
       refine lnb HS.out rfl ?_
       refine lv 0 (.bool (((partner5 x0) == 96#64))) rfl rfl (by intro x hx; go_simp; (first | done | exact eqIT (partner5 x0) 96#64 | exact congrArg _ (eqIT (partner5 x0) 96#64) | (rw [eqIT (partner5 x0) 96#64]; done) | (rw [eqIT (partner5 x0) 96#64]; rfl))) ?_
       simp only [sA, sB]
       refine la 1 47 rfl rfl rfl rfl ?_
       simp only [sA, sB]
       clear HS
       refine ld fun W9 HS => ?_
       cases h7 : (((partner5 x0) == 96#64))
       ·replace h7 := hid h7
        go_upto_region 13 with fail
        refine lnb HS.out rfl ?_
        refine lv 0 (.bool (((partner5 x0) == 112#64))) rfl rfl (by intro x hx; go_simp; (first | done | exact eqIT (partner5 x0) 112#64 | exact congrArg _ (eqIT (partner5 x0) 112#64) | (rw [eqIT (partner5 x0) 112#64]; done) | (rw [eqIT (partner5 x0) 112#64]; rfl))) ?_
        simp only [sA, sB]
        refine la 1 48 rfl rfl rfl rfl ?_
        simp only [sA, sB]
        clear HS
        refine ld fun W10 HS => ?_
        cases h8 : (((partner5 x0) == 112#64))
        ·replace h8 := hid h8
         go_upto_region 16 with fail
         refine lnb HS.out rfl ?_
         refine lm 0 0 rfl rfl rfl rfl ?_
         simp only [sA, sB]
         refine lv 1 (vS x1) rfl rfl (by intro x hx; obtain ⟨f0, f1, f2, f3, f4, f5⟩ := hx.six 0 0 rfl rfl; go_simp; all_goals exact rfl) ?_
         simp only [sA, sB, vS]
         refine lv 2 (vS x2) rfl rfl (by intro x hx; obtain ⟨f0, f1, f2, f3, f4, f5⟩ := hx.six 1 0 rfl rfl; go_simp; all_goals exact rfl) ?_
         simp only [sA, sB, vS]
         refine lc 3 41 #[.int .i64 (ti (partner5 x0)), vS x1, vS x2] (.tuple #[vS ((scalar_ranked (partner5 x0) x1 x2).1), vS ((scalar_ranked (partner5 x0) x1 x2).2.1), .bool ((scalar_ranked (partner5 x0) x1 x2).2.2)]) rfl rfl (by intro x hx; exact scalar_ranked_any (partner5 x0) x1 x2 _) ?_
         simp only [sA, sB, vS]
         refine lv 4 (vS ((scalar_ranked (partner5 x0) x1 x2).1)) rfl rfl (by intro x hx; go_simp; all_goals exact rfl) ?_
         simp only [sA, sB, vS]
         refine lv 5 (vS ((scalar_ranked (partner5 x0) x1 x2).2.1)) rfl rfl (by intro x hx; go_simp; all_goals exact rfl) ?_
         simp only [sA, sB, vS]
         refine lv 6 (.bool ((scalar_ranked (partner5 x0) x1 x2).2.2)) rfl rfl (by intro x hx; go_simp; all_goals exact rfl) ?_
         simp only [sA, sB]
         refine ls 7 2 0 (cS ((scalar_ranked (partner5 x0) x1 x2).1)) rfl rfl rfl (by intro x hx; obtain ⟨⟨_, z0, q0⟩, ⟨_, z1, q1⟩, ⟨_, z2, q2⟩, ⟨_, z3, q3⟩, ⟨_, z4, q4⟩, ⟨_, z5, q5⟩⟩ := hx.at6 2 0 rfl; go_simp; all_goals rfl) ?_
         simp only [Blk.putC, setM, cS, sA, sB]
         refine ls 8 3 0 (cS ((scalar_ranked (partner5 x0) x1 x2).2.1)) rfl rfl rfl (by intro x hx; obtain ⟨⟨_, z0, q0⟩, ⟨_, z1, q1⟩, ⟨_, z2, q2⟩, ⟨_, z3, q3⟩, ⟨_, z4, q4⟩, ⟨_, z5, q5⟩⟩ := hx.at6 3 0 rfl; go_simp; all_goals rfl) ?_
         simp only [Blk.putC, setM, cS, sA, sB]
         refine la 9 67 rfl rfl rfl rfl ?_
         simp only [sA, sB]
         clear HS
         refine ld fun W11 HS => ?_
         go_wp2
         obtain ⟨r0, r1, r2, r3, r4, r5⟩ := HS.out.six 2 0 rfl rfl
         obtain ⟨r6, r7, r8, r9, r10, r11⟩ := HS.out.six 3 0 rfl rfl
         have HF : scalar_bounded x0 x1 x2 x3 = ((scalar_ranked (partner5 x0) x1 x2).1, (scalar_ranked (partner5 x0) x1 x2).2.1, (scalar_ranked (partner5 x0) x1 x2).2.2) := by
           unfold scalar_bounded
           rw [cond_f h1.out, cond_t h2.out, cond_f h3.out, cond_f h4.out, cond_f h5.out, cond_f h6.out, cond_f h7.out, cond_f h8.out]
         exact bodyPost_ret (v := .tuple #[vS ((scalar_ranked (partner5 x0) x1 x2).1), vS ((scalar_ranked (partner5 x0) x1 x2).2.1), .bool ((scalar_ranked (partner5 x0) x1 x2).2.2)]) (by simp [results, Tryz.results17, go_sem, r0, r1, r2, r3, r4, r5, r6, r7, r8, r9, r10, r11, vS]) rfl ⟨(by first | (rw [HF]; done) | (rw [HF]; rfl)), HS.out.below⟩
        ·replace h8 := hid h8
         go_upto_region 14 with fail
         refine upb 14 (HS.out.drew) rfl ?_
         refine tm 0 0 rfl rfl rfl rfl ?_
         simp only [sA, sB]
         refine tc 1 42 #[.int .i64 (ti (partner5 x0))] (.int .i64 (ti (partner4 (partner5 x0)))) rfl rfl (by intro x hx; exact scalar_turned_any (partner5 x0) _) ?_
         simp only [sA, sB]
         refine tv 2 (vS x2) rfl rfl (by intro x hx; obtain ⟨f0, f1, f2, f3, f4, f5⟩ := hx.six 1 0 rfl rfl; go_simp; all_goals exact rfl) ?_
         simp only [sA, sB, vS]
         refine tv 3 (vS x1) rfl rfl (by intro x hx; obtain ⟨f0, f1, f2, f3, f4, f5⟩ := hx.six 0 0 rfl rfl; go_simp; all_goals exact rfl) ?_
         simp only [sA, sB, vS]
         refine tc 4 41 #[.int .i64 (ti (partner4 (partner5 x0))), vS x2, vS x1] (.tuple #[vS ((scalar_ranked (partner4 (partner5 x0)) x2 x1).1), vS ((scalar_ranked (partner4 (partner5 x0)) x2 x1).2.1), .bool ((scalar_ranked (partner4 (partner5 x0)) x2 x1).2.2)]) rfl rfl (by intro x hx; exact scalar_ranked_any (partner4 (partner5 x0)) x2 x1 _) ?_
         simp only [sA, sB, vS]
         refine tm 5 54 rfl rfl rfl rfl ?_
         simp only [sA, sB]
         refine tv 6 (vS ((scalar_ranked (partner4 (partner5 x0)) x2 x1).1)) rfl rfl (by intro x hx; go_simp; all_goals exact rfl) ?_
         simp only [sA, sB, vS]
         refine tv 7 (vS ((scalar_ranked (partner4 (partner5 x0)) x2 x1).2.1)) rfl rfl (by intro x hx; go_simp; all_goals exact rfl) ?_
         simp only [sA, sB, vS]
         refine tv 8 (.bool ((scalar_ranked (partner4 (partner5 x0)) x2 x1).2.2)) rfl rfl (by intro x hx; go_simp; all_goals exact rfl) ?_
         simp only [sA, sB]
         refine take_two_new (i := 9) (j := 10) rfl rfl rfl rfl (by decide) (by decide) (by kernel_rfl) (by kernel_rfl) (by kernel_rfl) [.int .u64 0, .int .u64 0, .int .u64 0, .int .u64 0, .int .i64 0, .int .i64 0] 31 (fun k => .pointer (some ⟨k, 0, none⟩)) [none, none, none, none, none, none] (lessC_no (lessC_no (lessC_no (lessC_no (lessC_no (lessC_no (trivial))))))) [.int .u64 0, .int .u64 0, .int .u64 0, .int .u64 0, .int .i64 0, .int .i64 0] 31 (fun k => .pointer (some ⟨k, 0, none⟩)) [none, none, none, none, none, none] (lessC_no (lessC_no (lessC_no (lessC_no (lessC_no (lessC_no (trivial))))))) (by rfl) (by rfl) (fun k => by rfl) (fun k => by rfl) (by intro x hx; go_simp; all_goals exact rfl) (by intro x hx; go_simp; all_goals exact rfl) (by intro k x hx; go_simp; all_goals exact rfl) (by intro k x hx; go_simp; all_goals exact rfl) (fun k1 k2 => ?_)
         simp only [sA, sB, sC, sD]
         refine ts 11 4 0 (cS ((scalar_ranked (partner4 (partner5 x0)) x2 x1).1)) rfl rfl rfl (by intro x hx; obtain ⟨⟨_, z0, q0⟩, ⟨_, z1, q1⟩, ⟨_, z2, q2⟩, ⟨_, z3, q3⟩, ⟨_, z4, q4⟩, ⟨_, z5, q5⟩⟩ := hx.at6 4 0 rfl; go_simp; all_goals rfl) ?_
         simp only [Blk.putC, setM, cS, sA, sB]
         refine ts 12 5 0 (cS ((scalar_ranked (partner4 (partner5 x0)) x2 x1).2.1)) rfl rfl rfl (by intro x hx; obtain ⟨⟨_, z0, q0⟩, ⟨_, z1, q1⟩, ⟨_, z2, q2⟩, ⟨_, z3, q3⟩, ⟨_, z4, q4⟩, ⟨_, z5, q5⟩⟩ := hx.at6 5 0 rfl; go_simp; all_goals rfl) ?_
         simp only [Blk.putC, setM, cS, sA, sB]
         refine ta 13 57 rfl rfl rfl rfl ?_
         simp only [sA, sB]
         clear HS
         refine td fun W11 HS => ?_
         go_upto_region 15 with fail
         refine upb 6 (((HS.out.drew.forget 2 0 6 rfl).forget 3 0 6 rfl)) rfl ?_
         simp only [Blk.dropC, noneM, sA, sB]
         refine tv 0 (vS ((scalar_ranked (partner4 (partner5 x0)) x2 x1).2.1)) rfl rfl (by intro x hx; obtain ⟨f0, f1, f2, f3, f4, f5⟩ := hx.six 5 0 rfl rfl; go_simp; all_goals exact rfl) ?_
         simp only [sA, sB, vS]
         refine tv 1 (vS ((scalar_ranked (partner4 (partner5 x0)) x2 x1).1)) rfl rfl (by intro x hx; obtain ⟨f0, f1, f2, f3, f4, f5⟩ := hx.six 4 0 rfl rfl; go_simp; all_goals exact rfl) ?_
         simp only [sA, sB, vS]
         refine tm 2 13 rfl rfl rfl rfl ?_
         simp only [sA, sB]
         refine ts 3 2 0 (cS ((scalar_ranked (partner4 (partner5 x0)) x2 x1).2.1)) rfl rfl rfl (by intro x hx; obtain ⟨⟨_, z0, q0⟩, ⟨_, z1, q1⟩, ⟨_, z2, q2⟩, ⟨_, z3, q3⟩, ⟨_, z4, q4⟩, ⟨_, z5, q5⟩⟩ := hx.at6 2 0 rfl; go_simp; all_goals rfl) ?_
         simp only [Blk.putC, setM, cS, sA, sB]
         refine ts 4 3 0 (cS ((scalar_ranked (partner4 (partner5 x0)) x2 x1).1)) rfl rfl rfl (by intro x hx; obtain ⟨⟨_, z0, q0⟩, ⟨_, z1, q1⟩, ⟨_, z2, q2⟩, ⟨_, z3, q3⟩, ⟨_, z4, q4⟩, ⟨_, z5, q5⟩⟩ := hx.at6 3 0 rfl; go_simp; all_goals rfl) ?_
         simp only [Blk.putC, setM, cS, sA, sB]
         refine ta 5 60 rfl rfl rfl rfl ?_
         simp only [sA, sB]
         clear HS
         refine td fun W12 HS => ?_
         go_wp2
         obtain ⟨r0, r1, r2, r3, r4, r5⟩ := HS.out.six 2 0 rfl rfl
         obtain ⟨r6, r7, r8, r9, r10, r11⟩ := HS.out.six 3 0 rfl rfl
         have HF : scalar_bounded x0 x1 x2 x3 = ((scalar_ranked (partner4 (partner5 x0)) x2 x1).2.1, (scalar_ranked (partner4 (partner5 x0)) x2 x1).1, (scalar_ranked (partner4 (partner5 x0)) x2 x1).2.2) := by
           unfold scalar_bounded
           rw [cond_f h1.out, cond_t h2.out, cond_f h3.out, cond_f h4.out, cond_f h5.out, cond_f h6.out, cond_f h7.out, cond_t h8.out]
         exact bodyPost_ret (v := .tuple #[vS ((scalar_ranked (partner4 (partner5 x0)) x2 x1).2.1), vS ((scalar_ranked (partner4 (partner5 x0)) x2 x1).1), .bool ((scalar_ranked (partner4 (partner5 x0)) x2 x1).2.2)]) (by simp [results, Tryz.results17, go_sem, r0, r1, r2, r3, r4, r5, r6, r7, r8, r9, r10, r11, vS]) rfl ⟨(by first | (rw [HF]; done) | (rw [HF]; rfl)), HS.out.below⟩
       ·replace h7 := hid h7
        go_upto_region 14 with fail
        refine upb 14 (HS.out.drew) rfl ?_
        refine tm 0 0 rfl rfl rfl rfl ?_
        simp only [sA, sB]
        refine tc 1 42 #[.int .i64 (ti (partner5 x0))] (.int .i64 (ti (partner4 (partner5 x0)))) rfl rfl (by intro x hx; exact scalar_turned_any (partner5 x0) _) ?_
        simp only [sA, sB]
        refine tv 2 (vS x2) rfl rfl (by intro x hx; obtain ⟨f0, f1, f2, f3, f4, f5⟩ := hx.six 1 0 rfl rfl; go_simp; all_goals exact rfl) ?_
        simp only [sA, sB, vS]
        refine tv 3 (vS x1) rfl rfl (by intro x hx; obtain ⟨f0, f1, f2, f3, f4, f5⟩ := hx.six 0 0 rfl rfl; go_simp; all_goals exact rfl) ?_
        simp only [sA, sB, vS]
        refine tc 4 41 #[.int .i64 (ti (partner4 (partner5 x0))), vS x2, vS x1] (.tuple #[vS ((scalar_ranked (partner4 (partner5 x0)) x2 x1).1), vS ((scalar_ranked (partner4 (partner5 x0)) x2 x1).2.1), .bool ((scalar_ranked (partner4 (partner5 x0)) x2 x1).2.2)]) rfl rfl (by intro x hx; exact scalar_ranked_any (partner4 (partner5 x0)) x2 x1 _) ?_
        simp only [sA, sB, vS]
        refine tm 5 54 rfl rfl rfl rfl ?_
        simp only [sA, sB]
        refine tv 6 (vS ((scalar_ranked (partner4 (partner5 x0)) x2 x1).1)) rfl rfl (by intro x hx; go_simp; all_goals exact rfl) ?_
        simp only [sA, sB, vS]
        refine tv 7 (vS ((scalar_ranked (partner4 (partner5 x0)) x2 x1).2.1)) rfl rfl (by intro x hx; go_simp; all_goals exact rfl) ?_
        simp only [sA, sB, vS]
        refine tv 8 (.bool ((scalar_ranked (partner4 (partner5 x0)) x2 x1).2.2)) rfl rfl (by intro x hx; go_simp; all_goals exact rfl) ?_
        simp only [sA, sB]
        refine take_two_new (i := 9) (j := 10) rfl rfl rfl rfl (by decide) (by decide) (by kernel_rfl) (by kernel_rfl) (by kernel_rfl) [.int .u64 0, .int .u64 0, .int .u64 0, .int .u64 0, .int .i64 0, .int .i64 0] 31 (fun k => .pointer (some ⟨k, 0, none⟩)) [none, none, none, none, none, none] (lessC_no (lessC_no (lessC_no (lessC_no (lessC_no (lessC_no (trivial))))))) [.int .u64 0, .int .u64 0, .int .u64 0, .int .u64 0, .int .i64 0, .int .i64 0] 31 (fun k => .pointer (some ⟨k, 0, none⟩)) [none, none, none, none, none, none] (lessC_no (lessC_no (lessC_no (lessC_no (lessC_no (lessC_no (trivial))))))) (by rfl) (by rfl) (fun k => by rfl) (fun k => by rfl) (by intro x hx; go_simp; all_goals exact rfl) (by intro x hx; go_simp; all_goals exact rfl) (by intro k x hx; go_simp; all_goals exact rfl) (by intro k x hx; go_simp; all_goals exact rfl) (fun k1 k2 => ?_)
        simp only [sA, sB, sC, sD]
        refine ts 11 4 0 (cS ((scalar_ranked (partner4 (partner5 x0)) x2 x1).1)) rfl rfl rfl (by intro x hx; obtain ⟨⟨_, z0, q0⟩, ⟨_, z1, q1⟩, ⟨_, z2, q2⟩, ⟨_, z3, q3⟩, ⟨_, z4, q4⟩, ⟨_, z5, q5⟩⟩ := hx.at6 4 0 rfl; go_simp; all_goals rfl) ?_
        simp only [Blk.putC, setM, cS, sA, sB]
        refine ts 12 5 0 (cS ((scalar_ranked (partner4 (partner5 x0)) x2 x1).2.1)) rfl rfl rfl (by intro x hx; obtain ⟨⟨_, z0, q0⟩, ⟨_, z1, q1⟩, ⟨_, z2, q2⟩, ⟨_, z3, q3⟩, ⟨_, z4, q4⟩, ⟨_, z5, q5⟩⟩ := hx.at6 5 0 rfl; go_simp; all_goals rfl) ?_
        simp only [Blk.putC, setM, cS, sA, sB]
        refine ta 13 57 rfl rfl rfl rfl ?_
        simp only [sA, sB]
        clear HS
        refine td fun W10 HS => ?_
        go_upto_region 15 with fail
        refine upb 6 (((HS.out.drew.forget 2 0 6 rfl).forget 3 0 6 rfl)) rfl ?_
        simp only [Blk.dropC, noneM, sA, sB]
        refine tv 0 (vS ((scalar_ranked (partner4 (partner5 x0)) x2 x1).2.1)) rfl rfl (by intro x hx; obtain ⟨f0, f1, f2, f3, f4, f5⟩ := hx.six 5 0 rfl rfl; go_simp; all_goals exact rfl) ?_
        simp only [sA, sB, vS]
        refine tv 1 (vS ((scalar_ranked (partner4 (partner5 x0)) x2 x1).1)) rfl rfl (by intro x hx; obtain ⟨f0, f1, f2, f3, f4, f5⟩ := hx.six 4 0 rfl rfl; go_simp; all_goals exact rfl) ?_
        simp only [sA, sB, vS]
        refine tm 2 13 rfl rfl rfl rfl ?_
        simp only [sA, sB]
        refine ts 3 2 0 (cS ((scalar_ranked (partner4 (partner5 x0)) x2 x1).2.1)) rfl rfl rfl (by intro x hx; obtain ⟨⟨_, z0, q0⟩, ⟨_, z1, q1⟩, ⟨_, z2, q2⟩, ⟨_, z3, q3⟩, ⟨_, z4, q4⟩, ⟨_, z5, q5⟩⟩ := hx.at6 2 0 rfl; go_simp; all_goals rfl) ?_
        simp only [Blk.putC, setM, cS, sA, sB]
        refine ts 4 3 0 (cS ((scalar_ranked (partner4 (partner5 x0)) x2 x1).1)) rfl rfl rfl (by intro x hx; obtain ⟨⟨_, z0, q0⟩, ⟨_, z1, q1⟩, ⟨_, z2, q2⟩, ⟨_, z3, q3⟩, ⟨_, z4, q4⟩, ⟨_, z5, q5⟩⟩ := hx.at6 3 0 rfl; go_simp; all_goals rfl) ?_
        simp only [Blk.putC, setM, cS, sA, sB]
        refine ta 5 60 rfl rfl rfl rfl ?_
        simp only [sA, sB]
        clear HS
        refine td fun W11 HS => ?_
        go_wp2
        obtain ⟨r0, r1, r2, r3, r4, r5⟩ := HS.out.six 2 0 rfl rfl
        obtain ⟨r6, r7, r8, r9, r10, r11⟩ := HS.out.six 3 0 rfl rfl
        have HF : scalar_bounded x0 x1 x2 x3 = ((scalar_ranked (partner4 (partner5 x0)) x2 x1).2.1, (scalar_ranked (partner4 (partner5 x0)) x2 x1).1, (scalar_ranked (partner4 (partner5 x0)) x2 x1).2.2) := by
          unfold scalar_bounded
          rw [cond_f h1.out, cond_t h2.out, cond_f h3.out, cond_f h4.out, cond_f h5.out, cond_f h6.out, cond_t h7.out]
        exact bodyPost_ret (v := .tuple #[vS ((scalar_ranked (partner4 (partner5 x0)) x2 x1).2.1), vS ((scalar_ranked (partner4 (partner5 x0)) x2 x1).1), .bool ((scalar_ranked (partner4 (partner5 x0)) x2 x1).2.2)]) (by simp [results, Tryz.results17, go_sem, r0, r1, r2, r3, r4, r5, r6, r7, r8, r9, r10, r11, vS]) rfl ⟨(by first | (rw [HF]; done) | (rw [HF]; rfl)), HS.out.below⟩
      ·replace h6 := hid h6
       go_upto_region 14 with fail
       refine upb 14 (HS.out.drew) rfl ?_
       refine tm 0 0 rfl rfl rfl rfl ?_
       simp only [sA, sB]
       refine tc 1 42 #[.int .i64 (ti (partner5 x0))] (.int .i64 (ti (partner4 (partner5 x0)))) rfl rfl (by intro x hx; exact scalar_turned_any (partner5 x0) _) ?_
       simp only [sA, sB]
       refine tv 2 (vS x2) rfl rfl (by intro x hx; obtain ⟨f0, f1, f2, f3, f4, f5⟩ := hx.six 1 0 rfl rfl; go_simp; all_goals exact rfl) ?_
       simp only [sA, sB, vS]
       refine tv 3 (vS x1) rfl rfl (by intro x hx; obtain ⟨f0, f1, f2, f3, f4, f5⟩ := hx.six 0 0 rfl rfl; go_simp; all_goals exact rfl) ?_
       simp only [sA, sB, vS]
       refine tc 4 41 #[.int .i64 (ti (partner4 (partner5 x0))), vS x2, vS x1] (.tuple #[vS ((scalar_ranked (partner4 (partner5 x0)) x2 x1).1), vS ((scalar_ranked (partner4 (partner5 x0)) x2 x1).2.1), .bool ((scalar_ranked (partner4 (partner5 x0)) x2 x1).2.2)]) rfl rfl (by intro x hx; exact scalar_ranked_any (partner4 (partner5 x0)) x2 x1 _) ?_
       simp only [sA, sB, vS]
       refine tm 5 54 rfl rfl rfl rfl ?_
       simp only [sA, sB]
       refine tv 6 (vS ((scalar_ranked (partner4 (partner5 x0)) x2 x1).1)) rfl rfl (by intro x hx; go_simp; all_goals exact rfl) ?_
       simp only [sA, sB, vS]
       refine tv 7 (vS ((scalar_ranked (partner4 (partner5 x0)) x2 x1).2.1)) rfl rfl (by intro x hx; go_simp; all_goals exact rfl) ?_
       simp only [sA, sB, vS]
       refine tv 8 (.bool ((scalar_ranked (partner4 (partner5 x0)) x2 x1).2.2)) rfl rfl (by intro x hx; go_simp; all_goals exact rfl) ?_
       simp only [sA, sB]
       refine take_two_new (i := 9) (j := 10) rfl rfl rfl rfl (by decide) (by decide) (by kernel_rfl) (by kernel_rfl) (by kernel_rfl) [.int .u64 0, .int .u64 0, .int .u64 0, .int .u64 0, .int .i64 0, .int .i64 0] 31 (fun k => .pointer (some ⟨k, 0, none⟩)) [none, none, none, none, none, none] (lessC_no (lessC_no (lessC_no (lessC_no (lessC_no (lessC_no (trivial))))))) [.int .u64 0, .int .u64 0, .int .u64 0, .int .u64 0, .int .i64 0, .int .i64 0] 31 (fun k => .pointer (some ⟨k, 0, none⟩)) [none, none, none, none, none, none] (lessC_no (lessC_no (lessC_no (lessC_no (lessC_no (lessC_no (trivial))))))) (by rfl) (by rfl) (fun k => by rfl) (fun k => by rfl) (by intro x hx; go_simp; all_goals exact rfl) (by intro x hx; go_simp; all_goals exact rfl) (by intro k x hx; go_simp; all_goals exact rfl) (by intro k x hx; go_simp; all_goals exact rfl) (fun k1 k2 => ?_)
       simp only [sA, sB, sC, sD]
       refine ts 11 4 0 (cS ((scalar_ranked (partner4 (partner5 x0)) x2 x1).1)) rfl rfl rfl (by intro x hx; obtain ⟨⟨_, z0, q0⟩, ⟨_, z1, q1⟩, ⟨_, z2, q2⟩, ⟨_, z3, q3⟩, ⟨_, z4, q4⟩, ⟨_, z5, q5⟩⟩ := hx.at6 4 0 rfl; go_simp; all_goals rfl) ?_
       simp only [Blk.putC, setM, cS, sA, sB]
       refine ts 12 5 0 (cS ((scalar_ranked (partner4 (partner5 x0)) x2 x1).2.1)) rfl rfl rfl (by intro x hx; obtain ⟨⟨_, z0, q0⟩, ⟨_, z1, q1⟩, ⟨_, z2, q2⟩, ⟨_, z3, q3⟩, ⟨_, z4, q4⟩, ⟨_, z5, q5⟩⟩ := hx.at6 5 0 rfl; go_simp; all_goals rfl) ?_
       simp only [Blk.putC, setM, cS, sA, sB]
       refine ta 13 57 rfl rfl rfl rfl ?_
       simp only [sA, sB]
       clear HS
       refine td fun W9 HS => ?_
       go_upto_region 15 with fail
       refine upb 6 (((HS.out.drew.forget 2 0 6 rfl).forget 3 0 6 rfl)) rfl ?_
       simp only [Blk.dropC, noneM, sA, sB]
       refine tv 0 (vS ((scalar_ranked (partner4 (partner5 x0)) x2 x1).2.1)) rfl rfl (by intro x hx; obtain ⟨f0, f1, f2, f3, f4, f5⟩ := hx.six 5 0 rfl rfl; go_simp; all_goals exact rfl) ?_
       simp only [sA, sB, vS]
       refine tv 1 (vS ((scalar_ranked (partner4 (partner5 x0)) x2 x1).1)) rfl rfl (by intro x hx; obtain ⟨f0, f1, f2, f3, f4, f5⟩ := hx.six 4 0 rfl rfl; go_simp; all_goals exact rfl) ?_
       simp only [sA, sB, vS]
       refine tm 2 13 rfl rfl rfl rfl ?_
       simp only [sA, sB]
       refine ts 3 2 0 (cS ((scalar_ranked (partner4 (partner5 x0)) x2 x1).2.1)) rfl rfl rfl (by intro x hx; obtain ⟨⟨_, z0, q0⟩, ⟨_, z1, q1⟩, ⟨_, z2, q2⟩, ⟨_, z3, q3⟩, ⟨_, z4, q4⟩, ⟨_, z5, q5⟩⟩ := hx.at6 2 0 rfl; go_simp; all_goals rfl) ?_
       simp only [Blk.putC, setM, cS, sA, sB]
       refine ts 4 3 0 (cS ((scalar_ranked (partner4 (partner5 x0)) x2 x1).1)) rfl rfl rfl (by intro x hx; obtain ⟨⟨_, z0, q0⟩, ⟨_, z1, q1⟩, ⟨_, z2, q2⟩, ⟨_, z3, q3⟩, ⟨_, z4, q4⟩, ⟨_, z5, q5⟩⟩ := hx.at6 3 0 rfl; go_simp; all_goals rfl) ?_
       simp only [Blk.putC, setM, cS, sA, sB]
       refine ta 5 60 rfl rfl rfl rfl ?_
       simp only [sA, sB]
       clear HS
       refine td fun W10 HS => ?_
       go_wp2
       obtain ⟨r0, r1, r2, r3, r4, r5⟩ := HS.out.six 2 0 rfl rfl
       obtain ⟨r6, r7, r8, r9, r10, r11⟩ := HS.out.six 3 0 rfl rfl
       have HF : scalar_bounded x0 x1 x2 x3 = ((scalar_ranked (partner4 (partner5 x0)) x2 x1).2.1, (scalar_ranked (partner4 (partner5 x0)) x2 x1).1, (scalar_ranked (partner4 (partner5 x0)) x2 x1).2.2) := by
         unfold scalar_bounded
         rw [cond_f h1.out, cond_t h2.out, cond_f h3.out, cond_f h4.out, cond_f h5.out, cond_t h6.out]
       exact bodyPost_ret (v := .tuple #[vS ((scalar_ranked (partner4 (partner5 x0)) x2 x1).2.1), vS ((scalar_ranked (partner4 (partner5 x0)) x2 x1).1), .bool ((scalar_ranked (partner4 (partner5 x0)) x2 x1).2.2)]) (by simp [results, Tryz.results17, go_sem, r0, r1, r2, r3, r4, r5, r6, r7, r8, r9, r10, r11, vS]) rfl ⟨(by first | (rw [HF]; done) | (rw [HF]; rfl)), HS.out.below⟩
     ·replace h5 := hid h5
      go_upto_region 14 with fail
      refine upb 14 (HS.out.drew) rfl ?_
      refine tm 0 0 rfl rfl rfl rfl ?_
      simp only [sA, sB]
      refine tc 1 42 #[.int .i64 (ti (partner5 x0))] (.int .i64 (ti (partner4 (partner5 x0)))) rfl rfl (by intro x hx; exact scalar_turned_any (partner5 x0) _) ?_
      simp only [sA, sB]
      refine tv 2 (vS x2) rfl rfl (by intro x hx; obtain ⟨f0, f1, f2, f3, f4, f5⟩ := hx.six 1 0 rfl rfl; go_simp; all_goals exact rfl) ?_
      simp only [sA, sB, vS]
      refine tv 3 (vS x1) rfl rfl (by intro x hx; obtain ⟨f0, f1, f2, f3, f4, f5⟩ := hx.six 0 0 rfl rfl; go_simp; all_goals exact rfl) ?_
      simp only [sA, sB, vS]
      refine tc 4 41 #[.int .i64 (ti (partner4 (partner5 x0))), vS x2, vS x1] (.tuple #[vS ((scalar_ranked (partner4 (partner5 x0)) x2 x1).1), vS ((scalar_ranked (partner4 (partner5 x0)) x2 x1).2.1), .bool ((scalar_ranked (partner4 (partner5 x0)) x2 x1).2.2)]) rfl rfl (by intro x hx; exact scalar_ranked_any (partner4 (partner5 x0)) x2 x1 _) ?_
      simp only [sA, sB, vS]
      refine tm 5 54 rfl rfl rfl rfl ?_
      simp only [sA, sB]
      refine tv 6 (vS ((scalar_ranked (partner4 (partner5 x0)) x2 x1).1)) rfl rfl (by intro x hx; go_simp; all_goals exact rfl) ?_
      simp only [sA, sB, vS]
      refine tv 7 (vS ((scalar_ranked (partner4 (partner5 x0)) x2 x1).2.1)) rfl rfl (by intro x hx; go_simp; all_goals exact rfl) ?_
      simp only [sA, sB, vS]
      refine tv 8 (.bool ((scalar_ranked (partner4 (partner5 x0)) x2 x1).2.2)) rfl rfl (by intro x hx; go_simp; all_goals exact rfl) ?_
      simp only [sA, sB]
      refine take_two_new (i := 9) (j := 10) rfl rfl rfl rfl (by decide) (by decide) (by kernel_rfl) (by kernel_rfl) (by kernel_rfl) [.int .u64 0, .int .u64 0, .int .u64 0, .int .u64 0, .int .i64 0, .int .i64 0] 31 (fun k => .pointer (some ⟨k, 0, none⟩)) [none, none, none, none, none, none] (lessC_no (lessC_no (lessC_no (lessC_no (lessC_no (lessC_no (trivial))))))) [.int .u64 0, .int .u64 0, .int .u64 0, .int .u64 0, .int .i64 0, .int .i64 0] 31 (fun k => .pointer (some ⟨k, 0, none⟩)) [none, none, none, none, none, none] (lessC_no (lessC_no (lessC_no (lessC_no (lessC_no (lessC_no (trivial))))))) (by rfl) (by rfl) (fun k => by rfl) (fun k => by rfl) (by intro x hx; go_simp; all_goals exact rfl) (by intro x hx; go_simp; all_goals exact rfl) (by intro k x hx; go_simp; all_goals exact rfl) (by intro k x hx; go_simp; all_goals exact rfl) (fun k1 k2 => ?_)
      simp only [sA, sB, sC, sD]
      refine ts 11 4 0 (cS ((scalar_ranked (partner4 (partner5 x0)) x2 x1).1)) rfl rfl rfl (by intro x hx; obtain ⟨⟨_, z0, q0⟩, ⟨_, z1, q1⟩, ⟨_, z2, q2⟩, ⟨_, z3, q3⟩, ⟨_, z4, q4⟩, ⟨_, z5, q5⟩⟩ := hx.at6 4 0 rfl; go_simp; all_goals rfl) ?_
      simp only [Blk.putC, setM, cS, sA, sB]
      refine ts 12 5 0 (cS ((scalar_ranked (partner4 (partner5 x0)) x2 x1).2.1)) rfl rfl rfl (by intro x hx; obtain ⟨⟨_, z0, q0⟩, ⟨_, z1, q1⟩, ⟨_, z2, q2⟩, ⟨_, z3, q3⟩, ⟨_, z4, q4⟩, ⟨_, z5, q5⟩⟩ := hx.at6 5 0 rfl; go_simp; all_goals rfl) ?_
      simp only [Blk.putC, setM, cS, sA, sB]
      refine ta 13 57 rfl rfl rfl rfl ?_
      simp only [sA, sB]
      clear HS
      refine td fun W8 HS => ?_
      go_upto_region 15 with fail
      refine upb 6 (((HS.out.drew.forget 2 0 6 rfl).forget 3 0 6 rfl)) rfl ?_
      simp only [Blk.dropC, noneM, sA, sB]
      refine tv 0 (vS ((scalar_ranked (partner4 (partner5 x0)) x2 x1).2.1)) rfl rfl (by intro x hx; obtain ⟨f0, f1, f2, f3, f4, f5⟩ := hx.six 5 0 rfl rfl; go_simp; all_goals exact rfl) ?_
      simp only [sA, sB, vS]
      refine tv 1 (vS ((scalar_ranked (partner4 (partner5 x0)) x2 x1).1)) rfl rfl (by intro x hx; obtain ⟨f0, f1, f2, f3, f4, f5⟩ := hx.six 4 0 rfl rfl; go_simp; all_goals exact rfl) ?_
      simp only [sA, sB, vS]
      refine tm 2 13 rfl rfl rfl rfl ?_
      simp only [sA, sB]
      refine ts 3 2 0 (cS ((scalar_ranked (partner4 (partner5 x0)) x2 x1).2.1)) rfl rfl rfl (by intro x hx; obtain ⟨⟨_, z0, q0⟩, ⟨_, z1, q1⟩, ⟨_, z2, q2⟩, ⟨_, z3, q3⟩, ⟨_, z4, q4⟩, ⟨_, z5, q5⟩⟩ := hx.at6 2 0 rfl; go_simp; all_goals rfl) ?_
      simp only [Blk.putC, setM, cS, sA, sB]
      refine ts 4 3 0 (cS ((scalar_ranked (partner4 (partner5 x0)) x2 x1).1)) rfl rfl rfl (by intro x hx; obtain ⟨⟨_, z0, q0⟩, ⟨_, z1, q1⟩, ⟨_, z2, q2⟩, ⟨_, z3, q3⟩, ⟨_, z4, q4⟩, ⟨_, z5, q5⟩⟩ := hx.at6 3 0 rfl; go_simp; all_goals rfl) ?_
      simp only [Blk.putC, setM, cS, sA, sB]
      refine ta 5 60 rfl rfl rfl rfl ?_
      simp only [sA, sB]
      clear HS
      refine td fun W9 HS => ?_
      go_wp2
      obtain ⟨r0, r1, r2, r3, r4, r5⟩ := HS.out.six 2 0 rfl rfl
      obtain ⟨r6, r7, r8, r9, r10, r11⟩ := HS.out.six 3 0 rfl rfl
      have HF : scalar_bounded x0 x1 x2 x3 = ((scalar_ranked (partner4 (partner5 x0)) x2 x1).2.1, (scalar_ranked (partner4 (partner5 x0)) x2 x1).1, (scalar_ranked (partner4 (partner5 x0)) x2 x1).2.2) := by
        unfold scalar_bounded
        rw [cond_f h1.out, cond_t h2.out, cond_f h3.out, cond_f h4.out, cond_t h5.out]
      exact bodyPost_ret (v := .tuple #[vS ((scalar_ranked (partner4 (partner5 x0)) x2 x1).2.1), vS ((scalar_ranked (partner4 (partner5 x0)) x2 x1).1), .bool ((scalar_ranked (partner4 (partner5 x0)) x2 x1).2.2)]) (by simp [results, Tryz.results17, go_sem, r0, r1, r2, r3, r4, r5, r6, r7, r8, r9, r10, r11, vS]) rfl ⟨(by first | (rw [HF]; done) | (rw [HF]; rfl)), HS.out.below⟩
    ·replace h4 := hid h4
     go_upto_region 9 with fail
     refine lnb HS.out rfl ?_
     refine lv 0 (vS x1) rfl rfl (by intro x hx; obtain ⟨f0, f1, f2, f3, f4, f5⟩ := hx.six 0 0 rfl rfl; go_simp; all_goals exact rfl) ?_
     simp only [sA, sB, vS]
     refine lv 1 (vS x2) rfl rfl (by intro x hx; obtain ⟨f0, f1, f2, f3, f4, f5⟩ := hx.six 1 0 rfl rfl; go_simp; all_goals exact rfl) ?_
     simp only [sA, sB, vS]
     refine lc 2 40 #[vS x1, vS x2] (.tuple #[vS ((scalar_differ x1 x2).1), vS ((scalar_differ x1 x2).2.1), .bool ((scalar_differ x1 x2).2.2)]) rfl rfl (by intro x hx; exact scalar_differ_any x1 x2 _) ?_
     simp only [sA, sB, vS]
     refine lv 3 (vS ((scalar_differ x1 x2).1)) rfl rfl (by intro x hx; go_simp; all_goals exact rfl) ?_
     simp only [sA, sB, vS]
     refine lv 4 (vS ((scalar_differ x1 x2).2.1)) rfl rfl (by intro x hx; go_simp; all_goals exact rfl) ?_
     simp only [sA, sB, vS]
     refine lv 5 (.bool ((scalar_differ x1 x2).2.2)) rfl rfl (by intro x hx; go_simp; all_goals exact rfl) ?_
     simp only [sA, sB]
     refine ls 6 2 0 (cS ((scalar_differ x1 x2).1)) rfl rfl rfl (by intro x hx; obtain ⟨⟨_, z0, q0⟩, ⟨_, z1, q1⟩, ⟨_, z2, q2⟩, ⟨_, z3, q3⟩, ⟨_, z4, q4⟩, ⟨_, z5, q5⟩⟩ := hx.at6 2 0 rfl; go_simp; all_goals rfl) ?_
     simp only [Blk.putC, setM, cS, sA, sB]
     refine ls 7 3 0 (cS ((scalar_differ x1 x2).2.1)) rfl rfl rfl (by intro x hx; obtain ⟨⟨_, z0, q0⟩, ⟨_, z1, q1⟩, ⟨_, z2, q2⟩, ⟨_, z3, q3⟩, ⟨_, z4, q4⟩, ⟨_, z5, q5⟩⟩ := hx.at6 3 0 rfl; go_simp; all_goals rfl) ?_
     simp only [Blk.putC, setM, cS, sA, sB]
     refine la 8 43 rfl rfl rfl rfl ?_
     simp only [sA, sB]
     clear HS
     refine ld fun W7 HS => ?_
     go_wp2
     obtain ⟨r0, r1, r2, r3, r4, r5⟩ := HS.out.six 2 0 rfl rfl
     obtain ⟨r6, r7, r8, r9, r10, r11⟩ := HS.out.six 3 0 rfl rfl
     have HF : scalar_bounded x0 x1 x2 x3 = ((scalar_differ x1 x2).1, (scalar_differ x1 x2).2.1, (scalar_differ x1 x2).2.2) := by
       unfold scalar_bounded
       rw [cond_f h1.out, cond_t h2.out, cond_f h3.out, cond_t h4.out]
     exact bodyPost_ret (v := .tuple #[vS ((scalar_differ x1 x2).1), vS ((scalar_differ x1 x2).2.1), .bool ((scalar_differ x1 x2).2.2)]) (by simp [results, Tryz.results17, go_sem, r0, r1, r2, r3, r4, r5, r6, r7, r8, r9, r10, r11, vS]) rfl ⟨(by first | (rw [HF]; done) | (rw [HF]; rfl)), HS.out.below⟩
   ·replace h3 := hid h3
    go_upto_region 7 with fail
    refine lnb HS.out rfl ?_
    refine lv 0 (vS x1) rfl rfl (by intro x hx; obtain ⟨f0, f1, f2, f3, f4, f5⟩ := hx.six 0 0 rfl rfl; go_simp; all_goals exact rfl) ?_
    simp only [sA, sB, vS]
    refine lv 1 (vS x2) rfl rfl (by intro x hx; obtain ⟨f0, f1, f2, f3, f4, f5⟩ := hx.six 1 0 rfl rfl; go_simp; all_goals exact rfl) ?_
    simp only [sA, sB, vS]
    refine lc 2 39 #[vS x1, vS x2] (.tuple #[vS ((scalar_same x1 x2).1), vS ((scalar_same x1 x2).2.1), .bool ((scalar_same x1 x2).2.2)]) rfl rfl (by intro x hx; exact scalar_same_any x1 x2 _) ?_
    simp only [sA, sB, vS]
    refine lv 3 (vS ((scalar_same x1 x2).1)) rfl rfl (by intro x hx; go_simp; all_goals exact rfl) ?_
    simp only [sA, sB, vS]
    refine lv 4 (vS ((scalar_same x1 x2).2.1)) rfl rfl (by intro x hx; go_simp; all_goals exact rfl) ?_
    simp only [sA, sB, vS]
    refine lv 5 (.bool ((scalar_same x1 x2).2.2)) rfl rfl (by intro x hx; go_simp; all_goals exact rfl) ?_
    simp only [sA, sB]
    refine ls 6 2 0 (cS ((scalar_same x1 x2).1)) rfl rfl rfl (by intro x hx; obtain ⟨⟨_, z0, q0⟩, ⟨_, z1, q1⟩, ⟨_, z2, q2⟩, ⟨_, z3, q3⟩, ⟨_, z4, q4⟩, ⟨_, z5, q5⟩⟩ := hx.at6 2 0 rfl; go_simp; all_goals rfl) ?_
    simp only [Blk.putC, setM, cS, sA, sB]
    refine ls 7 3 0 (cS ((scalar_same x1 x2).2.1)) rfl rfl rfl (by intro x hx; obtain ⟨⟨_, z0, q0⟩, ⟨_, z1, q1⟩, ⟨_, z2, q2⟩, ⟨_, z3, q3⟩, ⟨_, z4, q4⟩, ⟨_, z5, q5⟩⟩ := hx.at6 3 0 rfl; go_simp; all_goals rfl) ?_
    simp only [Blk.putC, setM, cS, sA, sB]
    refine la 8 35 rfl rfl rfl rfl ?_
    simp only [sA, sB]
    clear HS
    refine ld fun W6 HS => ?_
    go_wp2
    obtain ⟨r0, r1, r2, r3, r4, r5⟩ := HS.out.six 2 0 rfl rfl
    obtain ⟨r6, r7, r8, r9, r10, r11⟩ := HS.out.six 3 0 rfl rfl
    have HF : scalar_bounded x0 x1 x2 x3 = ((scalar_same x1 x2).1, (scalar_same x1 x2).2.1, (scalar_same x1 x2).2.2) := by
      unfold scalar_bounded
      rw [cond_f h1.out, cond_t h2.out, cond_t h3.out]
    exact bodyPost_ret (v := .tuple #[vS ((scalar_same x1 x2).1), vS ((scalar_same x1 x2).2.1), .bool ((scalar_same x1 x2).2.2)]) (by simp [results, Tryz.results17, go_sem, r0, r1, r2, r3, r4, r5, r6, r7, r8, r9, r10, r11, vS]) rfl ⟨(by first | (rw [HF]; done) | (rw [HF]; rfl)), HS.out.below⟩
 ·replace h1 := hid h1
  go_upto_region 2 with fail
  refine lnb HS.out rfl ?_
  refine lv 0 (vS x1) rfl rfl (by intro x hx; obtain ⟨f0, f1, f2, f3, f4, f5⟩ := hx.six 0 0 rfl rfl; go_simp; all_goals exact rfl) ?_
  simp only [sA, sB, vS]
  refine lv 1 (vS x2) rfl rfl (by intro x hx; obtain ⟨f0, f1, f2, f3, f4, f5⟩ := hx.six 1 0 rfl rfl; go_simp; all_goals exact rfl) ?_
  simp only [sA, sB, vS]
  refine lm 2 3 rfl rfl rfl rfl ?_
  simp only [sA, sB]
  refine lc 3 37 #[vS x1, vS x2, .bool (x3)] (.tuple #[vS ((scalar_common x1 x2 x3).1), vS ((scalar_common x1 x2 x3).2.1), .bool ((scalar_common x1 x2 x3).2.2)]) rfl rfl (by intro x hx; exact scalar_common_any x1 x2 x3 _) ?_
  simp only [sA, sB, vS]
  refine lv 4 (vS ((scalar_common x1 x2 x3).1)) rfl rfl (by intro x hx; go_simp; all_goals exact rfl) ?_
  simp only [sA, sB, vS]
  refine lv 5 (vS ((scalar_common x1 x2 x3).2.1)) rfl rfl (by intro x hx; go_simp; all_goals exact rfl) ?_
  simp only [sA, sB, vS]
  refine lv 6 (.bool ((scalar_common x1 x2 x3).2.2)) rfl rfl (by intro x hx; go_simp; all_goals exact rfl) ?_
  simp only [sA, sB]
  refine ls 7 2 0 (cS ((scalar_common x1 x2 x3).1)) rfl rfl rfl (by intro x hx; obtain ⟨⟨_, z0, q0⟩, ⟨_, z1, q1⟩, ⟨_, z2, q2⟩, ⟨_, z3, q3⟩, ⟨_, z4, q4⟩, ⟨_, z5, q5⟩⟩ := hx.at6 2 0 rfl; go_simp; all_goals rfl) ?_
  simp only [Blk.putC, setM, cS, sA, sB]
  refine ls 8 3 0 (cS ((scalar_common x1 x2 x3).2.1)) rfl rfl rfl (by intro x hx; obtain ⟨⟨_, z0, q0⟩, ⟨_, z1, q1⟩, ⟨_, z2, q2⟩, ⟨_, z3, q3⟩, ⟨_, z4, q4⟩, ⟨_, z5, q5⟩⟩ := hx.at6 3 0 rfl; go_simp; all_goals rfl) ?_
  simp only [Blk.putC, setM, cS, sA, sB]
  refine la 9 22 rfl rfl rfl rfl ?_
  simp only [sA, sB]
  clear HS
  refine ld fun W2 HS => ?_
  go_wp2
  obtain ⟨r0, r1, r2, r3, r4, r5⟩ := HS.out.six 2 0 rfl rfl
  obtain ⟨r6, r7, r8, r9, r10, r11⟩ := HS.out.six 3 0 rfl rfl
  have HF : scalar_bounded x0 x1 x2 x3 = ((scalar_common x1 x2 x3).1, (scalar_common x1 x2 x3).2.1, (scalar_common x1 x2 x3).2.2) := by
    unfold scalar_bounded
    rw [cond_t h1.out]
  exact bodyPost_ret (v := .tuple #[vS ((scalar_common x1 x2 x3).1), vS ((scalar_common x1 x2 x3).2.1), .bool ((scalar_common x1 x2 x3).2.2)]) (by simp [results, Tryz.results17, go_sem, r0, r1, r2, r3, r4, r5, r6, r7, r8, r9, r10, r11, vS]) rfl ⟨(by first | (rw [HF]; done) | (rw [HF]; rfl)), HS.out.below⟩
end Go.Proofs.YtmcapfbkedfdkaaGreatDoor.Sp
