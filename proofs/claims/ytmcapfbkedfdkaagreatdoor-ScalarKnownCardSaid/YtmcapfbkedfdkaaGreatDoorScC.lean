/-
  The contracts of the closures of Norm, and its own.
-/
import Derived.Deep.DeepCutAuto
import Derived.Test.YtmcapfbkedfdkaaGreatDoorScA
namespace Go.Proofs.YtmcapfbkedfdkaaGreatDoor.Sp
set_option maxRecDepth 100000
set_option maxHeartbeats 1000000
open Go.RowKit Go.Proofs.YtmcapfbkedfdkaaGreatDoor.Num Go.Proofs.YtmcapfbkedfdkaaGreatDoor.Up
def rule1 (x0 : Sc) : Sc × Bool := (Sc.mk x0.t (((span_meet_uint64 x0.u (P.mk x0.t.lo (x0.t.lo ||| x0.t.hi))).1, (span_meet_uint64 x0.u (P.mk x0.t.lo (x0.t.lo ||| x0.t.hi))).2)).1 x0.s, (((span_meet_uint64 x0.u (P.mk x0.t.lo (x0.t.lo ||| x0.t.hi))).1, (span_meet_uint64 x0.u (P.mk x0.t.lo (x0.t.lo ||| x0.t.hi))).2)).2)
theorem rule1_any (w0 : World) (K1 K2 K3 : Nat) (x0 : Sc) (w : World) (hS : St w0 [⟨K1, [some (.int .u64 (tn (x0.t.lo))), some (.int .u64 (tn (x0.t.hi))), some (.int .u64 (tn (x0.u.lo))), some (.int .u64 (tn (x0.u.hi))), some (.int .i64 (ti (x0.s.lo))), some (.int .i64 (ti (x0.s.hi)))], 31⟩, ⟨K2, [some (.int .u64 0), some (.int .u64 0), some (.int .u64 0), some (.int .u64 0), some (.int .i64 0), some (.int .i64 0)], 31⟩, ⟨K3, [some (.func (.func 43) #[] #[.pointer (some ⟨K1, 0, none⟩)]), some (.func (.func 46) #[] #[.pointer (some ⟨K1, 0, none⟩)]), some (.func (.func 49) #[] #[.pointer (some ⟨K1, 0, none⟩)]), some (.func (.func 51) #[] #[.pointer (some ⟨K1, 0, none⟩)]), some (.func (.func 53) #[] #[.pointer (some ⟨K1, 0, none⟩)])], 86⟩] w) :
  Calls Tryz.prog 43 #[.pointer (some ⟨K1, 0, none⟩)] w fun e w' => e = .returned (.bool ((rule1 x0).2)) ∧ St w0 [⟨K1, [some (.int .u64 (tn ((((rule1 x0).1).t).lo))), some (.int .u64 (tn ((((rule1 x0).1).t).hi))), some (.int .u64 (tn ((((rule1 x0).1).u).lo))), some (.int .u64 (tn ((((rule1 x0).1).u).hi))), some (.int .i64 (ti ((((rule1 x0).1).s).lo))), some (.int .i64 (ti ((((rule1 x0).1).s).hi)))], 31⟩, ⟨K2, [some (.int .u64 0), some (.int .u64 0), some (.int .u64 0), some (.int .u64 0), some (.int .i64 0), some (.int .i64 0)], 31⟩, ⟨K3, [some (.func (.func 43) #[] #[.pointer (some ⟨K1, 0, none⟩)]), some (.func (.func 46) #[] #[.pointer (some ⟨K1, 0, none⟩)]), some (.func (.func 49) #[] #[.pointer (some ⟨K1, 0, none⟩)]), some (.func (.func 51) #[] #[.pointer (some ⟨K1, 0, none⟩)]), some (.func (.func 53) #[] #[.pointer (some ⟨K1, 0, none⟩)])], 86⟩] w' := by
 go_enter Tryz.func43, Tryz.ntmps43
 have HS : Hid (St w0 [⟨K1, [some (.int .u64 (tn (x0.t.lo))), some (.int .u64 (tn (x0.t.hi))), some (.int .u64 (tn (x0.u.lo))), some (.int .u64 (tn (x0.u.hi))), some (.int .i64 (ti (x0.s.lo))), some (.int .i64 (ti (x0.s.hi)))], 31⟩, ⟨K2, [some (.int .u64 0), some (.int .u64 0), some (.int .u64 0), some (.int .u64 0), some (.int .i64 0), some (.int .i64 0)], 31⟩, ⟨K3, [some (.func (.func 43) #[] #[.pointer (some ⟨K1, 0, none⟩)]), some (.func (.func 46) #[] #[.pointer (some ⟨K1, 0, none⟩)]), some (.func (.func 49) #[] #[.pointer (some ⟨K1, 0, none⟩)]), some (.func (.func 51) #[] #[.pointer (some ⟨K1, 0, none⟩)]), some (.func (.func 53) #[] #[.pointer (some ⟨K1, 0, none⟩)])], 86⟩] _) := hid hS
 go_upto_region 1 with fail
 refine wkb (fun j => [10].contains j) 12 HS.out.drew rfl ?_
 refine wp_ 0 (.pointer (some ⟨K1, 2, none⟩)) rfl rfl (by intro x hx; go_simp; all_goals exact rfl) ?_
 simp only [sA, sB]
 refine wv 1 (vU x0.u) rfl rfl (by intro x hx; obtain ⟨f0, f1⟩ := hx.two 0 2 rfl rfl; go_simp; all_goals exact rfl) ?_
 simp only [sA, sB, vU]
 refine wp_ 2 (.pointer (some ⟨K1, 0, none⟩)) rfl rfl (by intro x hx; go_simp; all_goals exact rfl) ?_
 simp only [sA, sB]
 refine wv 3 (vU x0.t) rfl rfl (by intro x hx; obtain ⟨f0, f1⟩ := hx.two 0 0 rfl rfl; go_simp; all_goals exact rfl) ?_
 simp only [sA, sB, vU]
 refine wc 4 45 #[vU x0.t] (vU (P.mk x0.t.lo (x0.t.lo ||| x0.t.hi))) rfl rfl (by intro x hx; exact span_Bounds_any x0.t _) ?_
 simp only [sA, sB, vU]
 refine wc 5 44 #[vU x0.u, vU (P.mk x0.t.lo (x0.t.lo ||| x0.t.hi))] (.tuple #[vU ((span_meet_uint64 x0.u (P.mk x0.t.lo (x0.t.lo ||| x0.t.hi))).1), .bool ((span_meet_uint64 x0.u (P.mk x0.t.lo (x0.t.lo ||| x0.t.hi))).2)]) rfl rfl (by intro x hx; exact span_Meet_any x0.u (P.mk x0.t.lo (x0.t.lo ||| x0.t.hi)) _) ?_
 simp only [sA, sB, vU]
 refine wp_ 6 (.tuple #[vU ((span_meet_uint64 x0.u (P.mk x0.t.lo (x0.t.lo ||| x0.t.hi))).1), .bool ((span_meet_uint64 x0.u (P.mk x0.t.lo (x0.t.lo ||| x0.t.hi))).2)]) rfl rfl (by intro x hx; go_simp; all_goals exact rfl) ?_
 simp only [sA, sB, vU]
 refine wp_ 7 (vU ((span_meet_uint64 x0.u (P.mk x0.t.lo (x0.t.lo ||| x0.t.hi))).1)) rfl rfl (by intro x hx; go_simp; all_goals exact rfl) ?_
 simp only [sA, sB, vU]
 refine wp_ 8 (.bool ((span_meet_uint64 x0.u (P.mk x0.t.lo (x0.t.lo ||| x0.t.hi))).2)) rfl rfl (by intro x hx; go_simp; all_goals exact rfl) ?_
 simp only [sA, sB]
 refine wp_ 9 (.pointer (some ⟨K1, 2, none⟩)) rfl rfl (by intro x hx; go_simp; all_goals exact rfl) ?_
 simp only [sA, sB]
 refine ws 10 0 2 (cU ((span_meet_uint64 x0.u (P.mk x0.t.lo (x0.t.lo ||| x0.t.hi))).1)) rfl rfl rfl (by intro x hx; obtain ⟨⟨_, z0, q0⟩, ⟨_, z1, q1⟩⟩ := hx.at2 0 2 rfl; go_simp; all_goals rfl) ?_
 simp only [Blk.putC, setM, cU, sA, sB]
 refine wp_ 11 (.bool ((span_meet_uint64 x0.u (P.mk x0.t.lo (x0.t.lo ||| x0.t.hi))).2)) rfl rfl (by intro x hx; go_simp; all_goals exact rfl) ?_
 simp only [sA, sB]
 clear HS
 refine wd fun W1 HS => ?_
 go_upto_region 2 with fail
 refine lnb HS.out rfl ?_
 refine lm 0 1 rfl rfl rfl rfl ?_
 simp only [sA, sB]
 refine la 1 12 rfl rfl rfl rfl ?_
 simp only [sA, sB]
 clear HS
 refine ld fun W2 HS => ?_
 go_wp2
 exact bodyPost_ret (v := .bool ((span_meet_uint64 x0.u (P.mk x0.t.lo (x0.t.lo ||| x0.t.hi))).2)) (by simp [results, Tryz.results43, go_sem]) rfl ⟨rfl, HS.out⟩
def rule2 (x0 : Sc) : Sc × Bool := (Sc.mk x0.t x0.u (((span_meet_int64 x0.s (span_Sbounds x0.t)).1, (span_meet_int64 x0.s (span_Sbounds x0.t)).2)).1, (((span_meet_int64 x0.s (span_Sbounds x0.t)).1, (span_meet_int64 x0.s (span_Sbounds x0.t)).2)).2)
theorem rule2_any (w0 : World) (K1 K2 K3 : Nat) (x0 : Sc) (w : World) (hS : St w0 [⟨K1, [some (.int .u64 (tn (x0.t.lo))), some (.int .u64 (tn (x0.t.hi))), some (.int .u64 (tn (x0.u.lo))), some (.int .u64 (tn (x0.u.hi))), some (.int .i64 (ti (x0.s.lo))), some (.int .i64 (ti (x0.s.hi)))], 31⟩, ⟨K2, [some (.int .u64 0), some (.int .u64 0), some (.int .u64 0), some (.int .u64 0), some (.int .i64 0), some (.int .i64 0)], 31⟩, ⟨K3, [some (.func (.func 43) #[] #[.pointer (some ⟨K1, 0, none⟩)]), some (.func (.func 46) #[] #[.pointer (some ⟨K1, 0, none⟩)]), some (.func (.func 49) #[] #[.pointer (some ⟨K1, 0, none⟩)]), some (.func (.func 51) #[] #[.pointer (some ⟨K1, 0, none⟩)]), some (.func (.func 53) #[] #[.pointer (some ⟨K1, 0, none⟩)])], 86⟩] w) :
  Calls Tryz.prog 46 #[.pointer (some ⟨K1, 0, none⟩)] w fun e w' => e = .returned (.bool ((rule2 x0).2)) ∧ St w0 [⟨K1, [some (.int .u64 (tn ((((rule2 x0).1).t).lo))), some (.int .u64 (tn ((((rule2 x0).1).t).hi))), some (.int .u64 (tn ((((rule2 x0).1).u).lo))), some (.int .u64 (tn ((((rule2 x0).1).u).hi))), some (.int .i64 (ti ((((rule2 x0).1).s).lo))), some (.int .i64 (ti ((((rule2 x0).1).s).hi)))], 31⟩, ⟨K2, [some (.int .u64 0), some (.int .u64 0), some (.int .u64 0), some (.int .u64 0), some (.int .i64 0), some (.int .i64 0)], 31⟩, ⟨K3, [some (.func (.func 43) #[] #[.pointer (some ⟨K1, 0, none⟩)]), some (.func (.func 46) #[] #[.pointer (some ⟨K1, 0, none⟩)]), some (.func (.func 49) #[] #[.pointer (some ⟨K1, 0, none⟩)]), some (.func (.func 51) #[] #[.pointer (some ⟨K1, 0, none⟩)]), some (.func (.func 53) #[] #[.pointer (some ⟨K1, 0, none⟩)])], 86⟩] w' := by
 go_enter Tryz.func46, Tryz.ntmps46
 have HS : Hid (St w0 [⟨K1, [some (.int .u64 (tn (x0.t.lo))), some (.int .u64 (tn (x0.t.hi))), some (.int .u64 (tn (x0.u.lo))), some (.int .u64 (tn (x0.u.hi))), some (.int .i64 (ti (x0.s.lo))), some (.int .i64 (ti (x0.s.hi)))], 31⟩, ⟨K2, [some (.int .u64 0), some (.int .u64 0), some (.int .u64 0), some (.int .u64 0), some (.int .i64 0), some (.int .i64 0)], 31⟩, ⟨K3, [some (.func (.func 43) #[] #[.pointer (some ⟨K1, 0, none⟩)]), some (.func (.func 46) #[] #[.pointer (some ⟨K1, 0, none⟩)]), some (.func (.func 49) #[] #[.pointer (some ⟨K1, 0, none⟩)]), some (.func (.func 51) #[] #[.pointer (some ⟨K1, 0, none⟩)]), some (.func (.func 53) #[] #[.pointer (some ⟨K1, 0, none⟩)])], 86⟩] _) := hid hS
 go_upto_region 1 with fail
 refine wkb (fun j => [10].contains j) 12 HS.out.drew rfl ?_
 refine wp_ 0 (.pointer (some ⟨K1, 4, none⟩)) rfl rfl (by intro x hx; go_simp; all_goals exact rfl) ?_
 simp only [sA, sB]
 refine wv 1 (vI x0.s) rfl rfl (by intro x hx; obtain ⟨f0, f1⟩ := hx.two 0 4 rfl rfl; go_simp; all_goals exact rfl) ?_
 simp only [sA, sB, vI]
 refine wp_ 2 (.pointer (some ⟨K1, 0, none⟩)) rfl rfl (by intro x hx; go_simp; all_goals exact rfl) ?_
 simp only [sA, sB]
 refine wv 3 (vU x0.t) rfl rfl (by intro x hx; obtain ⟨f0, f1⟩ := hx.two 0 0 rfl rfl; go_simp; all_goals exact rfl) ?_
 simp only [sA, sB, vU]
 refine wc 4 48 #[vU x0.t] (vI (span_Sbounds x0.t)) rfl rfl (by intro x hx; exact span_Sbounds_any x0.t _) ?_
 simp only [sA, sB, vI]
 refine wc 5 47 #[vI x0.s, vI (span_Sbounds x0.t)] (.tuple #[vI ((span_meet_int64 x0.s (span_Sbounds x0.t)).1), .bool ((span_meet_int64 x0.s (span_Sbounds x0.t)).2)]) rfl rfl (by intro x hx; exact span_Smeet_any x0.s (span_Sbounds x0.t) _) ?_
 simp only [sA, sB, vI]
 refine wp_ 6 (.tuple #[vI ((span_meet_int64 x0.s (span_Sbounds x0.t)).1), .bool ((span_meet_int64 x0.s (span_Sbounds x0.t)).2)]) rfl rfl (by intro x hx; go_simp; all_goals exact rfl) ?_
 simp only [sA, sB, vI]
 refine wp_ 7 (vI ((span_meet_int64 x0.s (span_Sbounds x0.t)).1)) rfl rfl (by intro x hx; go_simp; all_goals exact rfl) ?_
 simp only [sA, sB, vI]
 refine wp_ 8 (.bool ((span_meet_int64 x0.s (span_Sbounds x0.t)).2)) rfl rfl (by intro x hx; go_simp; all_goals exact rfl) ?_
 simp only [sA, sB]
 refine wp_ 9 (.pointer (some ⟨K1, 4, none⟩)) rfl rfl (by intro x hx; go_simp; all_goals exact rfl) ?_
 simp only [sA, sB]
 refine ws 10 0 4 (cI ((span_meet_int64 x0.s (span_Sbounds x0.t)).1)) rfl rfl rfl (by intro x hx; obtain ⟨⟨_, z0, q0⟩, ⟨_, z1, q1⟩⟩ := hx.at2 0 4 rfl; go_simp; all_goals rfl) ?_
 simp only [Blk.putC, setM, cI, sA, sB]
 refine wp_ 11 (.bool ((span_meet_int64 x0.s (span_Sbounds x0.t)).2)) rfl rfl (by intro x hx; go_simp; all_goals exact rfl) ?_
 simp only [sA, sB]
 clear HS
 refine wd fun W1 HS => ?_
 go_upto_region 2 with fail
 refine lnb HS.out rfl ?_
 refine lm 0 1 rfl rfl rfl rfl ?_
 simp only [sA, sB]
 refine la 1 12 rfl rfl rfl rfl ?_
 simp only [sA, sB]
 clear HS
 refine ld fun W2 HS => ?_
 go_wp2
 exact bodyPost_ret (v := .bool ((span_meet_int64 x0.s (span_Sbounds x0.t)).2)) (by simp [results, Tryz.results46, go_sem]) rfl ⟨rfl, HS.out⟩
def rule3 (x0 : Sc) : Sc × Bool := (Sc.mk x0.t (((span_meet_uint64 x0.u (span_ToSpan x0.s)).1, (span_meet_uint64 x0.u (span_ToSpan x0.s)).2)).1 x0.s, (((span_meet_uint64 x0.u (span_ToSpan x0.s)).1, (span_meet_uint64 x0.u (span_ToSpan x0.s)).2)).2)
theorem rule3_any (w0 : World) (K1 K2 K3 : Nat) (x0 : Sc) (w : World) (hS : St w0 [⟨K1, [some (.int .u64 (tn (x0.t.lo))), some (.int .u64 (tn (x0.t.hi))), some (.int .u64 (tn (x0.u.lo))), some (.int .u64 (tn (x0.u.hi))), some (.int .i64 (ti (x0.s.lo))), some (.int .i64 (ti (x0.s.hi)))], 31⟩, ⟨K2, [some (.int .u64 0), some (.int .u64 0), some (.int .u64 0), some (.int .u64 0), some (.int .i64 0), some (.int .i64 0)], 31⟩, ⟨K3, [some (.func (.func 43) #[] #[.pointer (some ⟨K1, 0, none⟩)]), some (.func (.func 46) #[] #[.pointer (some ⟨K1, 0, none⟩)]), some (.func (.func 49) #[] #[.pointer (some ⟨K1, 0, none⟩)]), some (.func (.func 51) #[] #[.pointer (some ⟨K1, 0, none⟩)]), some (.func (.func 53) #[] #[.pointer (some ⟨K1, 0, none⟩)])], 86⟩] w) :
  Calls Tryz.prog 49 #[.pointer (some ⟨K1, 0, none⟩)] w fun e w' => e = .returned (.bool ((rule3 x0).2)) ∧ St w0 [⟨K1, [some (.int .u64 (tn ((((rule3 x0).1).t).lo))), some (.int .u64 (tn ((((rule3 x0).1).t).hi))), some (.int .u64 (tn ((((rule3 x0).1).u).lo))), some (.int .u64 (tn ((((rule3 x0).1).u).hi))), some (.int .i64 (ti ((((rule3 x0).1).s).lo))), some (.int .i64 (ti ((((rule3 x0).1).s).hi)))], 31⟩, ⟨K2, [some (.int .u64 0), some (.int .u64 0), some (.int .u64 0), some (.int .u64 0), some (.int .i64 0), some (.int .i64 0)], 31⟩, ⟨K3, [some (.func (.func 43) #[] #[.pointer (some ⟨K1, 0, none⟩)]), some (.func (.func 46) #[] #[.pointer (some ⟨K1, 0, none⟩)]), some (.func (.func 49) #[] #[.pointer (some ⟨K1, 0, none⟩)]), some (.func (.func 51) #[] #[.pointer (some ⟨K1, 0, none⟩)]), some (.func (.func 53) #[] #[.pointer (some ⟨K1, 0, none⟩)])], 86⟩] w' := by
 go_enter Tryz.func49, Tryz.ntmps49
 have HS : Hid (St w0 [⟨K1, [some (.int .u64 (tn (x0.t.lo))), some (.int .u64 (tn (x0.t.hi))), some (.int .u64 (tn (x0.u.lo))), some (.int .u64 (tn (x0.u.hi))), some (.int .i64 (ti (x0.s.lo))), some (.int .i64 (ti (x0.s.hi)))], 31⟩, ⟨K2, [some (.int .u64 0), some (.int .u64 0), some (.int .u64 0), some (.int .u64 0), some (.int .i64 0), some (.int .i64 0)], 31⟩, ⟨K3, [some (.func (.func 43) #[] #[.pointer (some ⟨K1, 0, none⟩)]), some (.func (.func 46) #[] #[.pointer (some ⟨K1, 0, none⟩)]), some (.func (.func 49) #[] #[.pointer (some ⟨K1, 0, none⟩)]), some (.func (.func 51) #[] #[.pointer (some ⟨K1, 0, none⟩)]), some (.func (.func 53) #[] #[.pointer (some ⟨K1, 0, none⟩)])], 86⟩] _) := hid hS
 go_upto_region 1 with fail
 refine wkb (fun j => [10].contains j) 12 HS.out.drew rfl ?_
 refine wp_ 0 (.pointer (some ⟨K1, 2, none⟩)) rfl rfl (by intro x hx; go_simp; all_goals exact rfl) ?_
 simp only [sA, sB]
 refine wv 1 (vU x0.u) rfl rfl (by intro x hx; obtain ⟨f0, f1⟩ := hx.two 0 2 rfl rfl; go_simp; all_goals exact rfl) ?_
 simp only [sA, sB, vU]
 refine wp_ 2 (.pointer (some ⟨K1, 4, none⟩)) rfl rfl (by intro x hx; go_simp; all_goals exact rfl) ?_
 simp only [sA, sB]
 refine wv 3 (vI x0.s) rfl rfl (by intro x hx; obtain ⟨f0, f1⟩ := hx.two 0 4 rfl rfl; go_simp; all_goals exact rfl) ?_
 simp only [sA, sB, vI]
 refine wc 4 50 #[vI x0.s] (vU (span_ToSpan x0.s)) rfl rfl (by intro x hx; exact span_ToSpan_any x0.s _) ?_
 simp only [sA, sB, vU]
 refine wc 5 44 #[vU x0.u, vU (span_ToSpan x0.s)] (.tuple #[vU ((span_meet_uint64 x0.u (span_ToSpan x0.s)).1), .bool ((span_meet_uint64 x0.u (span_ToSpan x0.s)).2)]) rfl rfl (by intro x hx; exact span_Meet_any x0.u (span_ToSpan x0.s) _) ?_
 simp only [sA, sB, vU]
 refine wp_ 6 (.tuple #[vU ((span_meet_uint64 x0.u (span_ToSpan x0.s)).1), .bool ((span_meet_uint64 x0.u (span_ToSpan x0.s)).2)]) rfl rfl (by intro x hx; go_simp; all_goals exact rfl) ?_
 simp only [sA, sB, vU]
 refine wp_ 7 (vU ((span_meet_uint64 x0.u (span_ToSpan x0.s)).1)) rfl rfl (by intro x hx; go_simp; all_goals exact rfl) ?_
 simp only [sA, sB, vU]
 refine wp_ 8 (.bool ((span_meet_uint64 x0.u (span_ToSpan x0.s)).2)) rfl rfl (by intro x hx; go_simp; all_goals exact rfl) ?_
 simp only [sA, sB]
 refine wp_ 9 (.pointer (some ⟨K1, 2, none⟩)) rfl rfl (by intro x hx; go_simp; all_goals exact rfl) ?_
 simp only [sA, sB]
 refine ws 10 0 2 (cU ((span_meet_uint64 x0.u (span_ToSpan x0.s)).1)) rfl rfl rfl (by intro x hx; obtain ⟨⟨_, z0, q0⟩, ⟨_, z1, q1⟩⟩ := hx.at2 0 2 rfl; go_simp; all_goals rfl) ?_
 simp only [Blk.putC, setM, cU, sA, sB]
 refine wp_ 11 (.bool ((span_meet_uint64 x0.u (span_ToSpan x0.s)).2)) rfl rfl (by intro x hx; go_simp; all_goals exact rfl) ?_
 simp only [sA, sB]
 clear HS
 refine wd fun W1 HS => ?_
 go_upto_region 2 with fail
 refine lnb HS.out rfl ?_
 refine lm 0 1 rfl rfl rfl rfl ?_
 simp only [sA, sB]
 refine la 1 12 rfl rfl rfl rfl ?_
 simp only [sA, sB]
 clear HS
 refine ld fun W2 HS => ?_
 go_wp2
 exact bodyPost_ret (v := .bool ((span_meet_uint64 x0.u (span_ToSpan x0.s)).2)) (by simp [results, Tryz.results49, go_sem]) rfl ⟨rfl, HS.out⟩
def rule4 (x0 : Sc) : Sc × Bool := (Sc.mk x0.t x0.u (((span_meet_int64 x0.s (span_ToSigned x0.u)).1, (span_meet_int64 x0.s (span_ToSigned x0.u)).2)).1, (((span_meet_int64 x0.s (span_ToSigned x0.u)).1, (span_meet_int64 x0.s (span_ToSigned x0.u)).2)).2)
theorem rule4_any (w0 : World) (K1 K2 K3 : Nat) (x0 : Sc) (w : World) (hS : St w0 [⟨K1, [some (.int .u64 (tn (x0.t.lo))), some (.int .u64 (tn (x0.t.hi))), some (.int .u64 (tn (x0.u.lo))), some (.int .u64 (tn (x0.u.hi))), some (.int .i64 (ti (x0.s.lo))), some (.int .i64 (ti (x0.s.hi)))], 31⟩, ⟨K2, [some (.int .u64 0), some (.int .u64 0), some (.int .u64 0), some (.int .u64 0), some (.int .i64 0), some (.int .i64 0)], 31⟩, ⟨K3, [some (.func (.func 43) #[] #[.pointer (some ⟨K1, 0, none⟩)]), some (.func (.func 46) #[] #[.pointer (some ⟨K1, 0, none⟩)]), some (.func (.func 49) #[] #[.pointer (some ⟨K1, 0, none⟩)]), some (.func (.func 51) #[] #[.pointer (some ⟨K1, 0, none⟩)]), some (.func (.func 53) #[] #[.pointer (some ⟨K1, 0, none⟩)])], 86⟩] w) :
  Calls Tryz.prog 51 #[.pointer (some ⟨K1, 0, none⟩)] w fun e w' => e = .returned (.bool ((rule4 x0).2)) ∧ St w0 [⟨K1, [some (.int .u64 (tn ((((rule4 x0).1).t).lo))), some (.int .u64 (tn ((((rule4 x0).1).t).hi))), some (.int .u64 (tn ((((rule4 x0).1).u).lo))), some (.int .u64 (tn ((((rule4 x0).1).u).hi))), some (.int .i64 (ti ((((rule4 x0).1).s).lo))), some (.int .i64 (ti ((((rule4 x0).1).s).hi)))], 31⟩, ⟨K2, [some (.int .u64 0), some (.int .u64 0), some (.int .u64 0), some (.int .u64 0), some (.int .i64 0), some (.int .i64 0)], 31⟩, ⟨K3, [some (.func (.func 43) #[] #[.pointer (some ⟨K1, 0, none⟩)]), some (.func (.func 46) #[] #[.pointer (some ⟨K1, 0, none⟩)]), some (.func (.func 49) #[] #[.pointer (some ⟨K1, 0, none⟩)]), some (.func (.func 51) #[] #[.pointer (some ⟨K1, 0, none⟩)]), some (.func (.func 53) #[] #[.pointer (some ⟨K1, 0, none⟩)])], 86⟩] w' := by
 go_enter Tryz.func51, Tryz.ntmps51
 have HS : Hid (St w0 [⟨K1, [some (.int .u64 (tn (x0.t.lo))), some (.int .u64 (tn (x0.t.hi))), some (.int .u64 (tn (x0.u.lo))), some (.int .u64 (tn (x0.u.hi))), some (.int .i64 (ti (x0.s.lo))), some (.int .i64 (ti (x0.s.hi)))], 31⟩, ⟨K2, [some (.int .u64 0), some (.int .u64 0), some (.int .u64 0), some (.int .u64 0), some (.int .i64 0), some (.int .i64 0)], 31⟩, ⟨K3, [some (.func (.func 43) #[] #[.pointer (some ⟨K1, 0, none⟩)]), some (.func (.func 46) #[] #[.pointer (some ⟨K1, 0, none⟩)]), some (.func (.func 49) #[] #[.pointer (some ⟨K1, 0, none⟩)]), some (.func (.func 51) #[] #[.pointer (some ⟨K1, 0, none⟩)]), some (.func (.func 53) #[] #[.pointer (some ⟨K1, 0, none⟩)])], 86⟩] _) := hid hS
 go_upto_region 1 with fail
 refine wkb (fun j => [10].contains j) 12 HS.out.drew rfl ?_
 refine wp_ 0 (.pointer (some ⟨K1, 4, none⟩)) rfl rfl (by intro x hx; go_simp; all_goals exact rfl) ?_
 simp only [sA, sB]
 refine wv 1 (vI x0.s) rfl rfl (by intro x hx; obtain ⟨f0, f1⟩ := hx.two 0 4 rfl rfl; go_simp; all_goals exact rfl) ?_
 simp only [sA, sB, vI]
 refine wp_ 2 (.pointer (some ⟨K1, 2, none⟩)) rfl rfl (by intro x hx; go_simp; all_goals exact rfl) ?_
 simp only [sA, sB]
 refine wv 3 (vU x0.u) rfl rfl (by intro x hx; obtain ⟨f0, f1⟩ := hx.two 0 2 rfl rfl; go_simp; all_goals exact rfl) ?_
 simp only [sA, sB, vU]
 refine wc 4 52 #[vU x0.u] (vI (span_ToSigned x0.u)) rfl rfl (by intro x hx; exact span_ToSigned_any x0.u _) ?_
 simp only [sA, sB, vI]
 refine wc 5 47 #[vI x0.s, vI (span_ToSigned x0.u)] (.tuple #[vI ((span_meet_int64 x0.s (span_ToSigned x0.u)).1), .bool ((span_meet_int64 x0.s (span_ToSigned x0.u)).2)]) rfl rfl (by intro x hx; exact span_Smeet_any x0.s (span_ToSigned x0.u) _) ?_
 simp only [sA, sB, vI]
 refine wp_ 6 (.tuple #[vI ((span_meet_int64 x0.s (span_ToSigned x0.u)).1), .bool ((span_meet_int64 x0.s (span_ToSigned x0.u)).2)]) rfl rfl (by intro x hx; go_simp; all_goals exact rfl) ?_
 simp only [sA, sB, vI]
 refine wp_ 7 (vI ((span_meet_int64 x0.s (span_ToSigned x0.u)).1)) rfl rfl (by intro x hx; go_simp; all_goals exact rfl) ?_
 simp only [sA, sB, vI]
 refine wp_ 8 (.bool ((span_meet_int64 x0.s (span_ToSigned x0.u)).2)) rfl rfl (by intro x hx; go_simp; all_goals exact rfl) ?_
 simp only [sA, sB]
 refine wp_ 9 (.pointer (some ⟨K1, 4, none⟩)) rfl rfl (by intro x hx; go_simp; all_goals exact rfl) ?_
 simp only [sA, sB]
 refine ws 10 0 4 (cI ((span_meet_int64 x0.s (span_ToSigned x0.u)).1)) rfl rfl rfl (by intro x hx; obtain ⟨⟨_, z0, q0⟩, ⟨_, z1, q1⟩⟩ := hx.at2 0 4 rfl; go_simp; all_goals rfl) ?_
 simp only [Blk.putC, setM, cI, sA, sB]
 refine wp_ 11 (.bool ((span_meet_int64 x0.s (span_ToSigned x0.u)).2)) rfl rfl (by intro x hx; go_simp; all_goals exact rfl) ?_
 simp only [sA, sB]
 clear HS
 refine wd fun W1 HS => ?_
 go_upto_region 2 with fail
 refine lnb HS.out rfl ?_
 refine lm 0 1 rfl rfl rfl rfl ?_
 simp only [sA, sB]
 refine la 1 12 rfl rfl rfl rfl ?_
 simp only [sA, sB]
 clear HS
 refine ld fun W2 HS => ?_
 go_wp2
 exact bodyPost_ret (v := .bool ((span_meet_int64 x0.s (span_ToSigned x0.u)).2)) (by simp [results, Tryz.results51, go_sem]) rfl ⟨rfl, HS.out⟩
def rule5 (x0 : Sc) : Sc × Bool := (Sc.mk (tnMeet x0.t (P.mk (x0.u.lo &&& ~~~(onesV (x0.u.lo ^^^ x0.u.hi))) (onesV (x0.u.lo ^^^ x0.u.hi)))).1 x0.u x0.s, (tnMeet x0.t (P.mk (x0.u.lo &&& ~~~(onesV (x0.u.lo ^^^ x0.u.hi))) (onesV (x0.u.lo ^^^ x0.u.hi)))).2)
theorem rule5_any (w0 : World) (K1 K2 K3 : Nat) (x0 : Sc) (w : World) (hS : St w0 [⟨K1, [some (.int .u64 (tn (x0.t.lo))), some (.int .u64 (tn (x0.t.hi))), some (.int .u64 (tn (x0.u.lo))), some (.int .u64 (tn (x0.u.hi))), some (.int .i64 (ti (x0.s.lo))), some (.int .i64 (ti (x0.s.hi)))], 31⟩, ⟨K2, [some (.int .u64 0), some (.int .u64 0), some (.int .u64 0), some (.int .u64 0), some (.int .i64 0), some (.int .i64 0)], 31⟩, ⟨K3, [some (.func (.func 43) #[] #[.pointer (some ⟨K1, 0, none⟩)]), some (.func (.func 46) #[] #[.pointer (some ⟨K1, 0, none⟩)]), some (.func (.func 49) #[] #[.pointer (some ⟨K1, 0, none⟩)]), some (.func (.func 51) #[] #[.pointer (some ⟨K1, 0, none⟩)]), some (.func (.func 53) #[] #[.pointer (some ⟨K1, 0, none⟩)])], 86⟩] w) :
  Calls Tryz.prog 53 #[.pointer (some ⟨K1, 0, none⟩)] w fun e w' => e = .returned (.bool ((rule5 x0).2)) ∧ St w0 [⟨K1, [some (.int .u64 (tn ((((rule5 x0).1).t).lo))), some (.int .u64 (tn ((((rule5 x0).1).t).hi))), some (.int .u64 (tn ((((rule5 x0).1).u).lo))), some (.int .u64 (tn ((((rule5 x0).1).u).hi))), some (.int .i64 (ti ((((rule5 x0).1).s).lo))), some (.int .i64 (ti ((((rule5 x0).1).s).hi)))], 31⟩, ⟨K2, [some (.int .u64 0), some (.int .u64 0), some (.int .u64 0), some (.int .u64 0), some (.int .i64 0), some (.int .i64 0)], 31⟩, ⟨K3, [some (.func (.func 43) #[] #[.pointer (some ⟨K1, 0, none⟩)]), some (.func (.func 46) #[] #[.pointer (some ⟨K1, 0, none⟩)]), some (.func (.func 49) #[] #[.pointer (some ⟨K1, 0, none⟩)]), some (.func (.func 51) #[] #[.pointer (some ⟨K1, 0, none⟩)]), some (.func (.func 53) #[] #[.pointer (some ⟨K1, 0, none⟩)])], 86⟩] w' := by
 go_enter Tryz.func53, Tryz.ntmps53
 have HS : Hid (St w0 [⟨K1, [some (.int .u64 (tn (x0.t.lo))), some (.int .u64 (tn (x0.t.hi))), some (.int .u64 (tn (x0.u.lo))), some (.int .u64 (tn (x0.u.hi))), some (.int .i64 (ti (x0.s.lo))), some (.int .i64 (ti (x0.s.hi)))], 31⟩, ⟨K2, [some (.int .u64 0), some (.int .u64 0), some (.int .u64 0), some (.int .u64 0), some (.int .i64 0), some (.int .i64 0)], 31⟩, ⟨K3, [some (.func (.func 43) #[] #[.pointer (some ⟨K1, 0, none⟩)]), some (.func (.func 46) #[] #[.pointer (some ⟨K1, 0, none⟩)]), some (.func (.func 49) #[] #[.pointer (some ⟨K1, 0, none⟩)]), some (.func (.func 51) #[] #[.pointer (some ⟨K1, 0, none⟩)]), some (.func (.func 53) #[] #[.pointer (some ⟨K1, 0, none⟩)])], 86⟩] _) := hid hS
 go_upto_region 1 with fail
 refine wkb (fun j => [10].contains j) 12 HS.out.drew rfl ?_
 refine wp_ 0 (.pointer (some ⟨K1, 0, none⟩)) rfl rfl (by intro x hx; go_simp; all_goals exact rfl) ?_
 simp only [sA, sB]
 refine wv 1 (vU x0.t) rfl rfl (by intro x hx; obtain ⟨f0, f1⟩ := hx.two 0 0 rfl rfl; go_simp; all_goals exact rfl) ?_
 simp only [sA, sB, vU]
 refine wp_ 2 (.pointer (some ⟨K1, 2, none⟩)) rfl rfl (by intro x hx; go_simp; all_goals exact rfl) ?_
 simp only [sA, sB]
 refine wv 3 (vU x0.u) rfl rfl (by intro x hx; obtain ⟨f0, f1⟩ := hx.two 0 2 rfl rfl; go_simp; all_goals exact rfl) ?_
 simp only [sA, sB, vU]
 refine wc 4 55 #[vU x0.u] (vU (P.mk (x0.u.lo &&& ~~~(onesV (x0.u.lo ^^^ x0.u.hi))) (onesV (x0.u.lo ^^^ x0.u.hi)))) rfl rfl (by intro x hx; exact span_Bits_any x0.u _) ?_
 simp only [sA, sB, vU]
 refine wc 5 54 #[vU x0.t, vU (P.mk (x0.u.lo &&& ~~~(onesV (x0.u.lo ^^^ x0.u.hi))) (onesV (x0.u.lo ^^^ x0.u.hi)))] (.tuple #[vU ((tnMeet x0.t (P.mk (x0.u.lo &&& ~~~(onesV (x0.u.lo ^^^ x0.u.hi))) (onesV (x0.u.lo ^^^ x0.u.hi)))).1), .bool ((tnMeet x0.t (P.mk (x0.u.lo &&& ~~~(onesV (x0.u.lo ^^^ x0.u.hi))) (onesV (x0.u.lo ^^^ x0.u.hi)))).2)]) rfl rfl (by intro x hx; exact tnMeet_any x0.t (P.mk (x0.u.lo &&& ~~~(onesV (x0.u.lo ^^^ x0.u.hi))) (onesV (x0.u.lo ^^^ x0.u.hi))) _) ?_
 simp only [sA, sB, vU]
 refine wp_ 6 (.tuple #[vU ((tnMeet x0.t (P.mk (x0.u.lo &&& ~~~(onesV (x0.u.lo ^^^ x0.u.hi))) (onesV (x0.u.lo ^^^ x0.u.hi)))).1), .bool ((tnMeet x0.t (P.mk (x0.u.lo &&& ~~~(onesV (x0.u.lo ^^^ x0.u.hi))) (onesV (x0.u.lo ^^^ x0.u.hi)))).2)]) rfl rfl (by intro x hx; go_simp; all_goals exact rfl) ?_
 simp only [sA, sB, vU]
 refine wp_ 7 (vU ((tnMeet x0.t (P.mk (x0.u.lo &&& ~~~(onesV (x0.u.lo ^^^ x0.u.hi))) (onesV (x0.u.lo ^^^ x0.u.hi)))).1)) rfl rfl (by intro x hx; go_simp; all_goals exact rfl) ?_
 simp only [sA, sB, vU]
 refine wp_ 8 (.bool ((tnMeet x0.t (P.mk (x0.u.lo &&& ~~~(onesV (x0.u.lo ^^^ x0.u.hi))) (onesV (x0.u.lo ^^^ x0.u.hi)))).2)) rfl rfl (by intro x hx; go_simp; all_goals exact rfl) ?_
 simp only [sA, sB]
 refine wp_ 9 (.pointer (some ⟨K1, 0, none⟩)) rfl rfl (by intro x hx; go_simp; all_goals exact rfl) ?_
 simp only [sA, sB]
 refine ws 10 0 0 (cU ((tnMeet x0.t (P.mk (x0.u.lo &&& ~~~(onesV (x0.u.lo ^^^ x0.u.hi))) (onesV (x0.u.lo ^^^ x0.u.hi)))).1)) rfl rfl rfl (by intro x hx; obtain ⟨⟨_, z0, q0⟩, ⟨_, z1, q1⟩⟩ := hx.at2 0 0 rfl; go_simp; all_goals rfl) ?_
 simp only [Blk.putC, setM, cU, sA, sB]
 refine wp_ 11 (.bool ((tnMeet x0.t (P.mk (x0.u.lo &&& ~~~(onesV (x0.u.lo ^^^ x0.u.hi))) (onesV (x0.u.lo ^^^ x0.u.hi)))).2)) rfl rfl (by intro x hx; go_simp; all_goals exact rfl) ?_
 simp only [sA, sB]
 clear HS
 refine wd fun W1 HS => ?_
 go_upto_region 2 with fail
 refine lnb HS.out rfl ?_
 refine lm 0 1 rfl rfl rfl rfl ?_
 simp only [sA, sB]
 refine la 1 12 rfl rfl rfl rfl ?_
 simp only [sA, sB]
 clear HS
 refine ld fun W2 HS => ?_
 go_wp2
 exact bodyPost_ret (v := .bool ((tnMeet x0.t (P.mk (x0.u.lo &&& ~~~(onesV (x0.u.lo ^^^ x0.u.hi))) (onesV (x0.u.lo ^^^ x0.u.hi)))).2)) (by simp [results, Tryz.results53, go_sem]) rfl ⟨rfl, HS.out⟩
def scalar_Norm (x0 : Sc)  : Sc × Bool :=
 bif (!((rule1 x0).2)) then ((scalar_All, false)) else (bif (!((rule2 ((rule1 x0).1)).2)) then ((scalar_All, false)) else (bif (!((rule3 ((rule2 ((rule1 x0).1)).1)).2)) then ((scalar_All, false)) else (bif (!((rule4 ((rule3 ((rule2 ((rule1 x0).1)).1)).1)).2)) then ((scalar_All, false)) else (bif (!((rule5 ((rule4 ((rule3 ((rule2 ((rule1 x0).1)).1)).1)).1)).2)) then ((scalar_All, false)) else (bif (!((rule1 ((rule5 ((rule4 ((rule3 ((rule2 ((rule1 x0).1)).1)).1)).1)).1)).2)) then ((scalar_All, false)) else (bif (!((rule2 ((rule1 ((rule5 ((rule4 ((rule3 ((rule2 ((rule1 x0).1)).1)).1)).1)).1)).1)).2)) then ((scalar_All, false)) else (bif (!((rule3 ((rule2 ((rule1 ((rule5 ((rule4 ((rule3 ((rule2 ((rule1 x0).1)).1)).1)).1)).1)).1)).1)).2)) then ((scalar_All, false)) else (bif (!((rule4 ((rule3 ((rule2 ((rule1 ((rule5 ((rule4 ((rule3 ((rule2 ((rule1 x0).1)).1)).1)).1)).1)).1)).1)).1)).2)) then ((scalar_All, false)) else (bif (!((rule5 ((rule4 ((rule3 ((rule2 ((rule1 ((rule5 ((rule4 ((rule3 ((rule2 ((rule1 x0).1)).1)).1)).1)).1)).1)).1)).1)).1)).2)) then ((scalar_All, false)) else (((rule5 ((rule4 ((rule3 ((rule2 ((rule1 ((rule5 ((rule4 ((rule3 ((rule2 ((rule1 x0).1)).1)).1)).1)).1)).1)).1)).1)).1)).1, true)))))))))))
set_option maxHeartbeats 4000000 in
theorem scalar_Norm_any (x0 : Sc)   (w : World) :
   Calls Tryz.prog 18 #[vS x0] w fun e w' => e = .returned (.tuple #[vS ((scalar_Norm x0).1), .bool ((scalar_Norm x0).2)]) ∧ Below w.heap.size w w' := by
 simp only [vS]
 go_enter Tryz.func18, Tryz.ntmps18
 have HS : Hid (St w [⟨w.heap.size, [some (.int .u64 (tn (x0.t.lo))), some (.int .u64 (tn (x0.t.hi))), some (.int .u64 (tn (x0.u.lo))), some (.int .u64 (tn (x0.u.hi))), some (.int .i64 (ti (x0.s.lo))), some (.int .i64 (ti (x0.s.hi)))], 31⟩, ⟨w.heap.size + 1, [some (.int .u64 0), some (.int .u64 0), some (.int .u64 0), some (.int .u64 0), some (.int .i64 0), some (.int .i64 0)], 31⟩] _) := hid (((st_nil w).alloc (k := w.heap.size) rfl [.int .u64 (tn (x0.t.lo)), .int .u64 (tn (x0.t.hi)), .int .u64 (tn (x0.u.lo)), .int .u64 (tn (x0.u.hi)), .int .i64 (ti (x0.s.lo)), .int .i64 (ti (x0.s.hi))] 31).alloc (k := w.heap.size + 1) (by simp) [.int .u64 0, .int .u64 0, .int .u64 0, .int .u64 0, .int .i64 0, .int .i64 0] 31)
 go_upto_region 1 with fail
 refine lnb HS.out rfl ?_
 refine lv 0 (.func (.func 43) #[] #[.pointer (some ⟨w.heap.size, 0, none⟩)]) rfl rfl (by intro x hx; go_simp; (first | done | exact rfl | rfl)) ?_
 simp only [sA, sB]
 refine lv 1 (.func (.func 46) #[] #[.pointer (some ⟨w.heap.size, 0, none⟩)]) rfl rfl (by intro x hx; go_simp; (first | done | exact rfl | rfl)) ?_
 simp only [sA, sB]
 refine lv 2 (.func (.func 49) #[] #[.pointer (some ⟨w.heap.size, 0, none⟩)]) rfl rfl (by intro x hx; go_simp; (first | done | exact rfl | rfl)) ?_
 simp only [sA, sB]
 refine lv 3 (.func (.func 51) #[] #[.pointer (some ⟨w.heap.size, 0, none⟩)]) rfl rfl (by intro x hx; go_simp; (first | done | exact rfl | rfl)) ?_
 simp only [sA, sB]
 refine lv 4 (.func (.func 53) #[] #[.pointer (some ⟨w.heap.size, 0, none⟩)]) rfl rfl (by intro x hx; go_simp; (first | done | exact rfl | rfl)) ?_
 simp only [sA, sB]
 refine lv 5 (.agg #[.func (.func 43) #[] #[.pointer (some ⟨w.heap.size, 0, none⟩)], .func (.func 46) #[] #[.pointer (some ⟨w.heap.size, 0, none⟩)], .func (.func 49) #[] #[.pointer (some ⟨w.heap.size, 0, none⟩)], .func (.func 51) #[] #[.pointer (some ⟨w.heap.size, 0, none⟩)], .func (.func 53) #[] #[.pointer (some ⟨w.heap.size, 0, none⟩)]]) rfl rfl (by intro x hx; go_simp; all_goals exact rfl) ?_
 simp only [sA, sB]
 refine lin_new (i := 6) rfl rfl (by rfl) [.nilFunc, .nilFunc, .nilFunc, .nilFunc, .nilFunc] 86 (fun k => .pointer (some ⟨k, 0, none⟩)) [some (.nilFunc), some (.nilFunc), some (.nilFunc), some (.nilFunc), some (.nilFunc)] (lessC_refl _) (by intro x hx; go_simp; all_goals exact rfl) (fun k1 => ?_)
 simp only [sA, sB, sC, sD]
 refine ls 7 2 0 [.func (.func 43) #[] #[.pointer (some ⟨w.heap.size, 0, none⟩)], .func (.func 46) #[] #[.pointer (some ⟨w.heap.size, 0, none⟩)], .func (.func 49) #[] #[.pointer (some ⟨w.heap.size, 0, none⟩)], .func (.func 51) #[] #[.pointer (some ⟨w.heap.size, 0, none⟩)], .func (.func 53) #[] #[.pointer (some ⟨w.heap.size, 0, none⟩)]] rfl rfl rfl (by intro x hx; obtain ⟨_, z0, q0⟩ := hx.at1 2 0 rfl; obtain ⟨_, z1, q1⟩ := hx.at1 2 1 rfl; obtain ⟨_, z2, q2⟩ := hx.at1 2 2 rfl; obtain ⟨_, z3, q3⟩ := hx.at1 2 3 rfl; obtain ⟨_, z4, q4⟩ := hx.at1 2 4 rfl; go_simp; all_goals rfl) ?_
 simp only [Blk.putC, setM, sA, sB]
 clear HS
 refine ld fun W1 HS => ?_
 go_upto_region 2 with fail
 refine lnb HS.out rfl ?_
 refine lv 0 (.int .i64 0) rfl rfl (by intro x hx; go_simp; all_goals exact rfl) ?_
 simp only [sA, sB]
 clear HS
 refine ld fun W2 HS => ?_
 go_wp2
 refine wp_loop_rounds 70 ?_
 rw [rounds_succ]
 go_upto_region 3 with fail
 refine lnb HS.out rfl ?_
 refine lv 0 (.bool true) rfl rfl (by intro x hx; go_simp; all_goals exact rfl) ?_
 simp only [sA, sB]
 clear HS
 refine ld fun W3 HS => ?_
 go_upto_region 4 with fail
 refine lnb HS.out rfl ?_
 refine lv 0 (.agg #[.func (.func 43) #[] #[.pointer (some ⟨w.heap.size, 0, none⟩)], .func (.func 46) #[] #[.pointer (some ⟨w.heap.size, 0, none⟩)], .func (.func 49) #[] #[.pointer (some ⟨w.heap.size, 0, none⟩)], .func (.func 51) #[] #[.pointer (some ⟨w.heap.size, 0, none⟩)], .func (.func 53) #[] #[.pointer (some ⟨w.heap.size, 0, none⟩)]]) rfl rfl (by intro x hx; have f0 := hx.load 2 0 rfl rfl; have f1 := hx.load 2 1 rfl rfl; have f2 := hx.load 2 2 rfl rfl; have f3 := hx.load 2 3 rfl rfl; have f4 := hx.load 2 4 rfl rfl; go_simp; all_goals exact rfl) ?_
 simp only [sA, sB]
 refine lv 1 (.int .i64 0) rfl rfl (by intro x hx; go_simp; all_goals exact rfl) ?_
 simp only [sA, sB]
 clear HS
 refine ld fun W4 HS => ?_
 go_wp2
 refine wp_loop_rounds 70 ?_
 rw [rounds_succ]
 go_upto_region 5 with fail
 refine lnb HS.out rfl ?_
 refine lv 0 (.bool true) rfl rfl (by intro x hx; go_simp; all_goals exact rfl) ?_
 simp only [sA, sB]
 clear HS
 refine ld fun W5 HS => ?_
 go_upto_region 6 with fail
 refine lnb HS.out rfl ?_
 refine lv 0 (.func (.func 43) #[] #[.pointer (some ⟨w.heap.size, 0, none⟩)]) rfl rfl (by intro x hx; go_simp; all_goals exact rfl) ?_
 simp only [sA, sB]
 refine la 1 18 rfl rfl rfl rfl ?_
 simp only [sA, sB]
 clear HS
 refine ld fun W6 HS => ?_
 go_upto_region 7 with fail
 refine lnb HS.out rfl ?_
 refine lm 0 6 rfl rfl rfl rfl ?_
 simp only [sA, sB]
 refine lin_call_to (i := 1) (f := 43) (args := #[.pointer (some ⟨w.heap.size, 0, none⟩)]) (v := .bool ((rule1 x0).2)) (T := St w [⟨w.heap.size, [some (.int .u64 (tn ((((rule1 x0).1).t).lo))), some (.int .u64 (tn ((((rule1 x0).1).t).hi))), some (.int .u64 (tn ((((rule1 x0).1).u).lo))), some (.int .u64 (tn ((((rule1 x0).1).u).hi))), some (.int .i64 (ti ((((rule1 x0).1).s).lo))), some (.int .i64 (ti ((((rule1 x0).1).s).hi)))], 31⟩, ⟨w.heap.size + 1, [some (.int .u64 0), some (.int .u64 0), some (.int .u64 0), some (.int .u64 0), some (.int .i64 0), some (.int .i64 0)], 31⟩, ⟨k1, [some (.func (.func 43) #[] #[.pointer (some ⟨w.heap.size, 0, none⟩)]), some (.func (.func 46) #[] #[.pointer (some ⟨w.heap.size, 0, none⟩)]), some (.func (.func 49) #[] #[.pointer (some ⟨w.heap.size, 0, none⟩)]), some (.func (.func 51) #[] #[.pointer (some ⟨w.heap.size, 0, none⟩)]), some (.func (.func 53) #[] #[.pointer (some ⟨w.heap.size, 0, none⟩)])], 86⟩]) rfl rfl (by rfl) (fun x hx => by kernel_rfl) (by intro x hx; exact rule1_any w w.heap.size (w.heap.size + 1) k1 x0 _ hx) ?_
 simp only [sA, sB]
 refine lv 2 (.bool ((!((rule1 x0).2)))) rfl rfl (by intro x hx; go_simp; all_goals exact rfl) ?_
 simp only [sA, sB]
 clear HS
 refine ld fun W7 HS => ?_
 cases h1 : ((!((rule1 x0).2)))
 ·replace h1 := hid h1
  go_upto_region 9 with fail
  refine lnb HS.out rfl ?_
  refine lv 0 (.int .i64 1) rfl rfl (by intro x hx; go_simp; all_goals exact rfl) ?_
  simp only [sA, sB]
  refine lm 1 23 rfl rfl rfl rfl ?_
  simp only [sA, sB]
  clear HS
  refine ld fun W8 HS => ?_
  go_wp2
  rw [rounds_succ]
  go_upto_region 5 with fail
  refine lnb HS.out rfl ?_
  refine lv 0 (.bool true) rfl rfl (by intro x hx; go_simp; all_goals exact rfl) ?_
  simp only [sA, sB]
  clear HS
  refine ld fun W9 HS => ?_
  go_upto_region 6 with fail
  refine lnb HS.out rfl ?_
  refine lv 0 (.func (.func 46) #[] #[.pointer (some ⟨w.heap.size, 0, none⟩)]) rfl rfl (by intro x hx; go_simp; all_goals exact rfl) ?_
  simp only [sA, sB]
  refine la 1 18 rfl rfl rfl rfl ?_
  simp only [sA, sB]
  clear HS
  refine ld fun W10 HS => ?_
  go_upto_region 7 with fail
  refine lnb HS.out rfl ?_
  refine lm 0 6 rfl rfl rfl rfl ?_
  simp only [sA, sB]
  refine lin_call_to (i := 1) (f := 46) (args := #[.pointer (some ⟨w.heap.size, 0, none⟩)]) (v := .bool ((rule2 ((rule1 x0).1)).2)) (T := St w [⟨w.heap.size, [some (.int .u64 (tn ((((rule2 ((rule1 x0).1)).1).t).lo))), some (.int .u64 (tn ((((rule2 ((rule1 x0).1)).1).t).hi))), some (.int .u64 (tn ((((rule2 ((rule1 x0).1)).1).u).lo))), some (.int .u64 (tn ((((rule2 ((rule1 x0).1)).1).u).hi))), some (.int .i64 (ti ((((rule2 ((rule1 x0).1)).1).s).lo))), some (.int .i64 (ti ((((rule2 ((rule1 x0).1)).1).s).hi)))], 31⟩, ⟨w.heap.size + 1, [some (.int .u64 0), some (.int .u64 0), some (.int .u64 0), some (.int .u64 0), some (.int .i64 0), some (.int .i64 0)], 31⟩, ⟨k1, [some (.func (.func 43) #[] #[.pointer (some ⟨w.heap.size, 0, none⟩)]), some (.func (.func 46) #[] #[.pointer (some ⟨w.heap.size, 0, none⟩)]), some (.func (.func 49) #[] #[.pointer (some ⟨w.heap.size, 0, none⟩)]), some (.func (.func 51) #[] #[.pointer (some ⟨w.heap.size, 0, none⟩)]), some (.func (.func 53) #[] #[.pointer (some ⟨w.heap.size, 0, none⟩)])], 86⟩]) rfl rfl (by rfl) (fun x hx => by kernel_rfl) (by intro x hx; exact rule2_any w w.heap.size (w.heap.size + 1) k1 ((rule1 x0).1) _ hx) ?_
  simp only [sA, sB]
  refine lv 2 (.bool ((!((rule2 ((rule1 x0).1)).2)))) rfl rfl (by intro x hx; go_simp; all_goals exact rfl) ?_
  simp only [sA, sB]
  clear HS
  refine ld fun W11 HS => ?_
  cases h2 : ((!((rule2 ((rule1 x0).1)).2)))
  ·replace h2 := hid h2
   go_upto_region 9 with fail
   refine lnb HS.out rfl ?_
   refine lv 0 (.int .i64 2) rfl rfl (by intro x hx; go_simp; all_goals exact rfl) ?_
   simp only [sA, sB]
   refine lm 1 23 rfl rfl rfl rfl ?_
   simp only [sA, sB]
   clear HS
   refine ld fun W12 HS => ?_
   go_wp2
   rw [rounds_succ]
   go_upto_region 5 with fail
   refine lnb HS.out rfl ?_
   refine lv 0 (.bool true) rfl rfl (by intro x hx; go_simp; all_goals exact rfl) ?_
   simp only [sA, sB]
   clear HS
   refine ld fun W13 HS => ?_
   go_upto_region 6 with fail
   refine lnb HS.out rfl ?_
   refine lv 0 (.func (.func 49) #[] #[.pointer (some ⟨w.heap.size, 0, none⟩)]) rfl rfl (by intro x hx; go_simp; all_goals exact rfl) ?_
   simp only [sA, sB]
   refine la 1 18 rfl rfl rfl rfl ?_
   simp only [sA, sB]
   clear HS
   refine ld fun W14 HS => ?_
   go_upto_region 7 with fail
   refine lnb HS.out rfl ?_
   refine lm 0 6 rfl rfl rfl rfl ?_
   simp only [sA, sB]
   refine lin_call_to (i := 1) (f := 49) (args := #[.pointer (some ⟨w.heap.size, 0, none⟩)]) (v := .bool ((rule3 ((rule2 ((rule1 x0).1)).1)).2)) (T := St w [⟨w.heap.size, [some (.int .u64 (tn ((((rule3 ((rule2 ((rule1 x0).1)).1)).1).t).lo))), some (.int .u64 (tn ((((rule3 ((rule2 ((rule1 x0).1)).1)).1).t).hi))), some (.int .u64 (tn ((((rule3 ((rule2 ((rule1 x0).1)).1)).1).u).lo))), some (.int .u64 (tn ((((rule3 ((rule2 ((rule1 x0).1)).1)).1).u).hi))), some (.int .i64 (ti ((((rule3 ((rule2 ((rule1 x0).1)).1)).1).s).lo))), some (.int .i64 (ti ((((rule3 ((rule2 ((rule1 x0).1)).1)).1).s).hi)))], 31⟩, ⟨w.heap.size + 1, [some (.int .u64 0), some (.int .u64 0), some (.int .u64 0), some (.int .u64 0), some (.int .i64 0), some (.int .i64 0)], 31⟩, ⟨k1, [some (.func (.func 43) #[] #[.pointer (some ⟨w.heap.size, 0, none⟩)]), some (.func (.func 46) #[] #[.pointer (some ⟨w.heap.size, 0, none⟩)]), some (.func (.func 49) #[] #[.pointer (some ⟨w.heap.size, 0, none⟩)]), some (.func (.func 51) #[] #[.pointer (some ⟨w.heap.size, 0, none⟩)]), some (.func (.func 53) #[] #[.pointer (some ⟨w.heap.size, 0, none⟩)])], 86⟩]) rfl rfl (by rfl) (fun x hx => by kernel_rfl) (by intro x hx; exact rule3_any w w.heap.size (w.heap.size + 1) k1 ((rule2 ((rule1 x0).1)).1) _ hx) ?_
   simp only [sA, sB]
   refine lv 2 (.bool ((!((rule3 ((rule2 ((rule1 x0).1)).1)).2)))) rfl rfl (by intro x hx; go_simp; all_goals exact rfl) ?_
   simp only [sA, sB]
   clear HS
   refine ld fun W15 HS => ?_
   cases h3 : ((!((rule3 ((rule2 ((rule1 x0).1)).1)).2)))
   ·replace h3 := hid h3
    go_upto_region 9 with fail
    refine lnb HS.out rfl ?_
    refine lv 0 (.int .i64 3) rfl rfl (by intro x hx; go_simp; all_goals exact rfl) ?_
    simp only [sA, sB]
    refine lm 1 23 rfl rfl rfl rfl ?_
    simp only [sA, sB]
    clear HS
    refine ld fun W16 HS => ?_
    go_wp2
    rw [rounds_succ]
    go_upto_region 5 with fail
    refine lnb HS.out rfl ?_
    refine lv 0 (.bool true) rfl rfl (by intro x hx; go_simp; all_goals exact rfl) ?_
    simp only [sA, sB]
    clear HS
    refine ld fun W17 HS => ?_
    go_upto_region 6 with fail
    refine lnb HS.out rfl ?_
    refine lv 0 (.func (.func 51) #[] #[.pointer (some ⟨w.heap.size, 0, none⟩)]) rfl rfl (by intro x hx; go_simp; all_goals exact rfl) ?_
    simp only [sA, sB]
    refine la 1 18 rfl rfl rfl rfl ?_
    simp only [sA, sB]
    clear HS
    refine ld fun W18 HS => ?_
    go_upto_region 7 with fail
    refine lnb HS.out rfl ?_
    refine lm 0 6 rfl rfl rfl rfl ?_
    simp only [sA, sB]
    refine lin_call_to (i := 1) (f := 51) (args := #[.pointer (some ⟨w.heap.size, 0, none⟩)]) (v := .bool ((rule4 ((rule3 ((rule2 ((rule1 x0).1)).1)).1)).2)) (T := St w [⟨w.heap.size, [some (.int .u64 (tn ((((rule4 ((rule3 ((rule2 ((rule1 x0).1)).1)).1)).1).t).lo))), some (.int .u64 (tn ((((rule4 ((rule3 ((rule2 ((rule1 x0).1)).1)).1)).1).t).hi))), some (.int .u64 (tn ((((rule4 ((rule3 ((rule2 ((rule1 x0).1)).1)).1)).1).u).lo))), some (.int .u64 (tn ((((rule4 ((rule3 ((rule2 ((rule1 x0).1)).1)).1)).1).u).hi))), some (.int .i64 (ti ((((rule4 ((rule3 ((rule2 ((rule1 x0).1)).1)).1)).1).s).lo))), some (.int .i64 (ti ((((rule4 ((rule3 ((rule2 ((rule1 x0).1)).1)).1)).1).s).hi)))], 31⟩, ⟨w.heap.size + 1, [some (.int .u64 0), some (.int .u64 0), some (.int .u64 0), some (.int .u64 0), some (.int .i64 0), some (.int .i64 0)], 31⟩, ⟨k1, [some (.func (.func 43) #[] #[.pointer (some ⟨w.heap.size, 0, none⟩)]), some (.func (.func 46) #[] #[.pointer (some ⟨w.heap.size, 0, none⟩)]), some (.func (.func 49) #[] #[.pointer (some ⟨w.heap.size, 0, none⟩)]), some (.func (.func 51) #[] #[.pointer (some ⟨w.heap.size, 0, none⟩)]), some (.func (.func 53) #[] #[.pointer (some ⟨w.heap.size, 0, none⟩)])], 86⟩]) rfl rfl (by rfl) (fun x hx => by kernel_rfl) (by intro x hx; exact rule4_any w w.heap.size (w.heap.size + 1) k1 ((rule3 ((rule2 ((rule1 x0).1)).1)).1) _ hx) ?_
    simp only [sA, sB]
    refine lv 2 (.bool ((!((rule4 ((rule3 ((rule2 ((rule1 x0).1)).1)).1)).2)))) rfl rfl (by intro x hx; go_simp; all_goals exact rfl) ?_
    simp only [sA, sB]
    clear HS
    refine ld fun W19 HS => ?_
    cases h4 : ((!((rule4 ((rule3 ((rule2 ((rule1 x0).1)).1)).1)).2)))
    ·replace h4 := hid h4
     go_upto_region 9 with fail
     refine lnb HS.out rfl ?_
     refine lv 0 (.int .i64 4) rfl rfl (by intro x hx; go_simp; all_goals exact rfl) ?_
     simp only [sA, sB]
     refine lm 1 23 rfl rfl rfl rfl ?_
     simp only [sA, sB]
     clear HS
     refine ld fun W20 HS => ?_
     go_wp2
     rw [rounds_succ]
     go_upto_region 5 with fail
     refine lnb HS.out rfl ?_
     refine lv 0 (.bool true) rfl rfl (by intro x hx; go_simp; all_goals exact rfl) ?_
     simp only [sA, sB]
     clear HS
     refine ld fun W21 HS => ?_
     go_upto_region 6 with fail
     refine lnb HS.out rfl ?_
     refine lv 0 (.func (.func 53) #[] #[.pointer (some ⟨w.heap.size, 0, none⟩)]) rfl rfl (by intro x hx; go_simp; all_goals exact rfl) ?_
     simp only [sA, sB]
     refine la 1 18 rfl rfl rfl rfl ?_
     simp only [sA, sB]
     clear HS
     refine ld fun W22 HS => ?_
     go_upto_region 7 with fail
     refine lnb HS.out rfl ?_
     refine lm 0 6 rfl rfl rfl rfl ?_
     simp only [sA, sB]
     refine lin_call_to (i := 1) (f := 53) (args := #[.pointer (some ⟨w.heap.size, 0, none⟩)]) (v := .bool ((rule5 ((rule4 ((rule3 ((rule2 ((rule1 x0).1)).1)).1)).1)).2)) (T := St w [⟨w.heap.size, [some (.int .u64 (tn ((((rule5 ((rule4 ((rule3 ((rule2 ((rule1 x0).1)).1)).1)).1)).1).t).lo))), some (.int .u64 (tn ((((rule5 ((rule4 ((rule3 ((rule2 ((rule1 x0).1)).1)).1)).1)).1).t).hi))), some (.int .u64 (tn ((((rule5 ((rule4 ((rule3 ((rule2 ((rule1 x0).1)).1)).1)).1)).1).u).lo))), some (.int .u64 (tn ((((rule5 ((rule4 ((rule3 ((rule2 ((rule1 x0).1)).1)).1)).1)).1).u).hi))), some (.int .i64 (ti ((((rule5 ((rule4 ((rule3 ((rule2 ((rule1 x0).1)).1)).1)).1)).1).s).lo))), some (.int .i64 (ti ((((rule5 ((rule4 ((rule3 ((rule2 ((rule1 x0).1)).1)).1)).1)).1).s).hi)))], 31⟩, ⟨w.heap.size + 1, [some (.int .u64 0), some (.int .u64 0), some (.int .u64 0), some (.int .u64 0), some (.int .i64 0), some (.int .i64 0)], 31⟩, ⟨k1, [some (.func (.func 43) #[] #[.pointer (some ⟨w.heap.size, 0, none⟩)]), some (.func (.func 46) #[] #[.pointer (some ⟨w.heap.size, 0, none⟩)]), some (.func (.func 49) #[] #[.pointer (some ⟨w.heap.size, 0, none⟩)]), some (.func (.func 51) #[] #[.pointer (some ⟨w.heap.size, 0, none⟩)]), some (.func (.func 53) #[] #[.pointer (some ⟨w.heap.size, 0, none⟩)])], 86⟩]) rfl rfl (by rfl) (fun x hx => by kernel_rfl) (by intro x hx; exact rule5_any w w.heap.size (w.heap.size + 1) k1 ((rule4 ((rule3 ((rule2 ((rule1 x0).1)).1)).1)).1) _ hx) ?_
     simp only [sA, sB]
     refine lv 2 (.bool ((!((rule5 ((rule4 ((rule3 ((rule2 ((rule1 x0).1)).1)).1)).1)).2)))) rfl rfl (by intro x hx; go_simp; all_goals exact rfl) ?_
     simp only [sA, sB]
     clear HS
     refine ld fun W23 HS => ?_
     cases h5 : ((!((rule5 ((rule4 ((rule3 ((rule2 ((rule1 x0).1)).1)).1)).1)).2)))
     ·replace h5 := hid h5
      go_upto_region 9 with fail
      refine lnb HS.out rfl ?_
      refine lv 0 (.int .i64 5) rfl rfl (by intro x hx; go_simp; all_goals exact rfl) ?_
      simp only [sA, sB]
      refine lm 1 23 rfl rfl rfl rfl ?_
      simp only [sA, sB]
      clear HS
      refine ld fun W24 HS => ?_
      go_wp2
      rw [rounds_succ]
      go_upto_region 5 with fail
      refine lnb HS.out rfl ?_
      refine lv 0 (.bool false) rfl rfl (by intro x hx; go_simp; all_goals exact rfl) ?_
      simp only [sA, sB]
      clear HS
      refine ld fun W25 HS => ?_
      go_upto_region 10 with fail
      refine lnb HS.out rfl ?_
      refine lv 0 (.int .i64 1) rfl rfl (by intro x hx; go_simp; all_goals exact rfl) ?_
      simp only [sA, sB]
      refine lm 1 24 rfl rfl rfl rfl ?_
      simp only [sA, sB]
      clear HS
      refine ld fun W26 HS => ?_
      go_wp2
      rw [rounds_succ]
      go_upto_region 3 with fail
      refine lnb HS.out rfl ?_
      refine lv 0 (.bool true) rfl rfl (by intro x hx; go_simp; all_goals exact rfl) ?_
      simp only [sA, sB]
      clear HS
      refine ld fun W27 HS => ?_
      go_upto_region 4 with fail
      refine lnb HS.out rfl ?_
      refine lv 0 (.agg #[.func (.func 43) #[] #[.pointer (some ⟨w.heap.size, 0, none⟩)], .func (.func 46) #[] #[.pointer (some ⟨w.heap.size, 0, none⟩)], .func (.func 49) #[] #[.pointer (some ⟨w.heap.size, 0, none⟩)], .func (.func 51) #[] #[.pointer (some ⟨w.heap.size, 0, none⟩)], .func (.func 53) #[] #[.pointer (some ⟨w.heap.size, 0, none⟩)]]) rfl rfl (by intro x hx; have f0 := hx.load 2 0 rfl rfl; have f1 := hx.load 2 1 rfl rfl; have f2 := hx.load 2 2 rfl rfl; have f3 := hx.load 2 3 rfl rfl; have f4 := hx.load 2 4 rfl rfl; go_simp; all_goals exact rfl) ?_
      simp only [sA, sB]
      refine lv 1 (.int .i64 0) rfl rfl (by intro x hx; go_simp; all_goals exact rfl) ?_
      simp only [sA, sB]
      clear HS
      refine ld fun W28 HS => ?_
      go_wp2
      refine wp_loop_rounds 70 ?_
      rw [rounds_succ]
      go_upto_region 5 with fail
      refine lnb HS.out rfl ?_
      refine lv 0 (.bool true) rfl rfl (by intro x hx; go_simp; all_goals exact rfl) ?_
      simp only [sA, sB]
      clear HS
      refine ld fun W29 HS => ?_
      go_upto_region 6 with fail
      refine lnb HS.out rfl ?_
      refine lv 0 (.func (.func 43) #[] #[.pointer (some ⟨w.heap.size, 0, none⟩)]) rfl rfl (by intro x hx; go_simp; all_goals exact rfl) ?_
      simp only [sA, sB]
      refine la 1 18 rfl rfl rfl rfl ?_
      simp only [sA, sB]
      clear HS
      refine ld fun W30 HS => ?_
      go_upto_region 7 with fail
      refine lnb HS.out rfl ?_
      refine lm 0 6 rfl rfl rfl rfl ?_
      simp only [sA, sB]
      refine lin_call_to (i := 1) (f := 43) (args := #[.pointer (some ⟨w.heap.size, 0, none⟩)]) (v := .bool ((rule1 ((rule5 ((rule4 ((rule3 ((rule2 ((rule1 x0).1)).1)).1)).1)).1)).2)) (T := St w [⟨w.heap.size, [some (.int .u64 (tn ((((rule1 ((rule5 ((rule4 ((rule3 ((rule2 ((rule1 x0).1)).1)).1)).1)).1)).1).t).lo))), some (.int .u64 (tn ((((rule1 ((rule5 ((rule4 ((rule3 ((rule2 ((rule1 x0).1)).1)).1)).1)).1)).1).t).hi))), some (.int .u64 (tn ((((rule1 ((rule5 ((rule4 ((rule3 ((rule2 ((rule1 x0).1)).1)).1)).1)).1)).1).u).lo))), some (.int .u64 (tn ((((rule1 ((rule5 ((rule4 ((rule3 ((rule2 ((rule1 x0).1)).1)).1)).1)).1)).1).u).hi))), some (.int .i64 (ti ((((rule1 ((rule5 ((rule4 ((rule3 ((rule2 ((rule1 x0).1)).1)).1)).1)).1)).1).s).lo))), some (.int .i64 (ti ((((rule1 ((rule5 ((rule4 ((rule3 ((rule2 ((rule1 x0).1)).1)).1)).1)).1)).1).s).hi)))], 31⟩, ⟨w.heap.size + 1, [some (.int .u64 0), some (.int .u64 0), some (.int .u64 0), some (.int .u64 0), some (.int .i64 0), some (.int .i64 0)], 31⟩, ⟨k1, [some (.func (.func 43) #[] #[.pointer (some ⟨w.heap.size, 0, none⟩)]), some (.func (.func 46) #[] #[.pointer (some ⟨w.heap.size, 0, none⟩)]), some (.func (.func 49) #[] #[.pointer (some ⟨w.heap.size, 0, none⟩)]), some (.func (.func 51) #[] #[.pointer (some ⟨w.heap.size, 0, none⟩)]), some (.func (.func 53) #[] #[.pointer (some ⟨w.heap.size, 0, none⟩)])], 86⟩]) rfl rfl (by rfl) (fun x hx => by kernel_rfl) (by intro x hx; exact rule1_any w w.heap.size (w.heap.size + 1) k1 ((rule5 ((rule4 ((rule3 ((rule2 ((rule1 x0).1)).1)).1)).1)).1) _ hx) ?_
      simp only [sA, sB]
      refine lv 2 (.bool ((!((rule1 ((rule5 ((rule4 ((rule3 ((rule2 ((rule1 x0).1)).1)).1)).1)).1)).2)))) rfl rfl (by intro x hx; go_simp; all_goals exact rfl) ?_
      simp only [sA, sB]
      clear HS
      refine ld fun W31 HS => ?_
      cases h6 : ((!((rule1 ((rule5 ((rule4 ((rule3 ((rule2 ((rule1 x0).1)).1)).1)).1)).1)).2)))
      ·replace h6 := hid h6
       go_upto_region 9 with fail
       refine lnb HS.out rfl ?_
       refine lv 0 (.int .i64 1) rfl rfl (by intro x hx; go_simp; all_goals exact rfl) ?_
       simp only [sA, sB]
       refine lm 1 23 rfl rfl rfl rfl ?_
       simp only [sA, sB]
       clear HS
       refine ld fun W32 HS => ?_
       go_wp2
       rw [rounds_succ]
       go_upto_region 5 with fail
       refine lnb HS.out rfl ?_
       refine lv 0 (.bool true) rfl rfl (by intro x hx; go_simp; all_goals exact rfl) ?_
       simp only [sA, sB]
       clear HS
       refine ld fun W33 HS => ?_
       go_upto_region 6 with fail
       refine lnb HS.out rfl ?_
       refine lv 0 (.func (.func 46) #[] #[.pointer (some ⟨w.heap.size, 0, none⟩)]) rfl rfl (by intro x hx; go_simp; all_goals exact rfl) ?_
       simp only [sA, sB]
       refine la 1 18 rfl rfl rfl rfl ?_
       simp only [sA, sB]
       clear HS
       refine ld fun W34 HS => ?_
       go_upto_region 7 with fail
       refine lnb HS.out rfl ?_
       refine lm 0 6 rfl rfl rfl rfl ?_
       simp only [sA, sB]
       refine lin_call_to (i := 1) (f := 46) (args := #[.pointer (some ⟨w.heap.size, 0, none⟩)]) (v := .bool ((rule2 ((rule1 ((rule5 ((rule4 ((rule3 ((rule2 ((rule1 x0).1)).1)).1)).1)).1)).1)).2)) (T := St w [⟨w.heap.size, [some (.int .u64 (tn ((((rule2 ((rule1 ((rule5 ((rule4 ((rule3 ((rule2 ((rule1 x0).1)).1)).1)).1)).1)).1)).1).t).lo))), some (.int .u64 (tn ((((rule2 ((rule1 ((rule5 ((rule4 ((rule3 ((rule2 ((rule1 x0).1)).1)).1)).1)).1)).1)).1).t).hi))), some (.int .u64 (tn ((((rule2 ((rule1 ((rule5 ((rule4 ((rule3 ((rule2 ((rule1 x0).1)).1)).1)).1)).1)).1)).1).u).lo))), some (.int .u64 (tn ((((rule2 ((rule1 ((rule5 ((rule4 ((rule3 ((rule2 ((rule1 x0).1)).1)).1)).1)).1)).1)).1).u).hi))), some (.int .i64 (ti ((((rule2 ((rule1 ((rule5 ((rule4 ((rule3 ((rule2 ((rule1 x0).1)).1)).1)).1)).1)).1)).1).s).lo))), some (.int .i64 (ti ((((rule2 ((rule1 ((rule5 ((rule4 ((rule3 ((rule2 ((rule1 x0).1)).1)).1)).1)).1)).1)).1).s).hi)))], 31⟩, ⟨w.heap.size + 1, [some (.int .u64 0), some (.int .u64 0), some (.int .u64 0), some (.int .u64 0), some (.int .i64 0), some (.int .i64 0)], 31⟩, ⟨k1, [some (.func (.func 43) #[] #[.pointer (some ⟨w.heap.size, 0, none⟩)]), some (.func (.func 46) #[] #[.pointer (some ⟨w.heap.size, 0, none⟩)]), some (.func (.func 49) #[] #[.pointer (some ⟨w.heap.size, 0, none⟩)]), some (.func (.func 51) #[] #[.pointer (some ⟨w.heap.size, 0, none⟩)]), some (.func (.func 53) #[] #[.pointer (some ⟨w.heap.size, 0, none⟩)])], 86⟩]) rfl rfl (by rfl) (fun x hx => by kernel_rfl) (by intro x hx; exact rule2_any w w.heap.size (w.heap.size + 1) k1 ((rule1 ((rule5 ((rule4 ((rule3 ((rule2 ((rule1 x0).1)).1)).1)).1)).1)).1) _ hx) ?_
       simp only [sA, sB]
       refine lv 2 (.bool ((!((rule2 ((rule1 ((rule5 ((rule4 ((rule3 ((rule2 ((rule1 x0).1)).1)).1)).1)).1)).1)).2)))) rfl rfl (by intro x hx; go_simp; all_goals exact rfl) ?_
       simp only [sA, sB]
       clear HS
       refine ld fun W35 HS => ?_
       cases h7 : ((!((rule2 ((rule1 ((rule5 ((rule4 ((rule3 ((rule2 ((rule1 x0).1)).1)).1)).1)).1)).1)).2)))
       ·replace h7 := hid h7
        go_upto_region 9 with fail
        refine lnb HS.out rfl ?_
        refine lv 0 (.int .i64 2) rfl rfl (by intro x hx; go_simp; all_goals exact rfl) ?_
        simp only [sA, sB]
        refine lm 1 23 rfl rfl rfl rfl ?_
        simp only [sA, sB]
        clear HS
        refine ld fun W36 HS => ?_
        go_wp2
        rw [rounds_succ]
        go_upto_region 5 with fail
        refine lnb HS.out rfl ?_
        refine lv 0 (.bool true) rfl rfl (by intro x hx; go_simp; all_goals exact rfl) ?_
        simp only [sA, sB]
        clear HS
        refine ld fun W37 HS => ?_
        go_upto_region 6 with fail
        refine lnb HS.out rfl ?_
        refine lv 0 (.func (.func 49) #[] #[.pointer (some ⟨w.heap.size, 0, none⟩)]) rfl rfl (by intro x hx; go_simp; all_goals exact rfl) ?_
        simp only [sA, sB]
        refine la 1 18 rfl rfl rfl rfl ?_
        simp only [sA, sB]
        clear HS
        refine ld fun W38 HS => ?_
        go_upto_region 7 with fail
        refine lnb HS.out rfl ?_
        refine lm 0 6 rfl rfl rfl rfl ?_
        simp only [sA, sB]
        refine lin_call_to (i := 1) (f := 49) (args := #[.pointer (some ⟨w.heap.size, 0, none⟩)]) (v := .bool ((rule3 ((rule2 ((rule1 ((rule5 ((rule4 ((rule3 ((rule2 ((rule1 x0).1)).1)).1)).1)).1)).1)).1)).2)) (T := St w [⟨w.heap.size, [some (.int .u64 (tn ((((rule3 ((rule2 ((rule1 ((rule5 ((rule4 ((rule3 ((rule2 ((rule1 x0).1)).1)).1)).1)).1)).1)).1)).1).t).lo))), some (.int .u64 (tn ((((rule3 ((rule2 ((rule1 ((rule5 ((rule4 ((rule3 ((rule2 ((rule1 x0).1)).1)).1)).1)).1)).1)).1)).1).t).hi))), some (.int .u64 (tn ((((rule3 ((rule2 ((rule1 ((rule5 ((rule4 ((rule3 ((rule2 ((rule1 x0).1)).1)).1)).1)).1)).1)).1)).1).u).lo))), some (.int .u64 (tn ((((rule3 ((rule2 ((rule1 ((rule5 ((rule4 ((rule3 ((rule2 ((rule1 x0).1)).1)).1)).1)).1)).1)).1)).1).u).hi))), some (.int .i64 (ti ((((rule3 ((rule2 ((rule1 ((rule5 ((rule4 ((rule3 ((rule2 ((rule1 x0).1)).1)).1)).1)).1)).1)).1)).1).s).lo))), some (.int .i64 (ti ((((rule3 ((rule2 ((rule1 ((rule5 ((rule4 ((rule3 ((rule2 ((rule1 x0).1)).1)).1)).1)).1)).1)).1)).1).s).hi)))], 31⟩, ⟨w.heap.size + 1, [some (.int .u64 0), some (.int .u64 0), some (.int .u64 0), some (.int .u64 0), some (.int .i64 0), some (.int .i64 0)], 31⟩, ⟨k1, [some (.func (.func 43) #[] #[.pointer (some ⟨w.heap.size, 0, none⟩)]), some (.func (.func 46) #[] #[.pointer (some ⟨w.heap.size, 0, none⟩)]), some (.func (.func 49) #[] #[.pointer (some ⟨w.heap.size, 0, none⟩)]), some (.func (.func 51) #[] #[.pointer (some ⟨w.heap.size, 0, none⟩)]), some (.func (.func 53) #[] #[.pointer (some ⟨w.heap.size, 0, none⟩)])], 86⟩]) rfl rfl (by rfl) (fun x hx => by kernel_rfl) (by intro x hx; exact rule3_any w w.heap.size (w.heap.size + 1) k1 ((rule2 ((rule1 ((rule5 ((rule4 ((rule3 ((rule2 ((rule1 x0).1)).1)).1)).1)).1)).1)).1) _ hx) ?_
        simp only [sA, sB]
        refine lv 2 (.bool ((!((rule3 ((rule2 ((rule1 ((rule5 ((rule4 ((rule3 ((rule2 ((rule1 x0).1)).1)).1)).1)).1)).1)).1)).2)))) rfl rfl (by intro x hx; go_simp; all_goals exact rfl) ?_
        simp only [sA, sB]
        clear HS
        refine ld fun W39 HS => ?_
        cases h8 : ((!((rule3 ((rule2 ((rule1 ((rule5 ((rule4 ((rule3 ((rule2 ((rule1 x0).1)).1)).1)).1)).1)).1)).1)).2)))
        ·replace h8 := hid h8
         go_upto_region 9 with fail
         refine lnb HS.out rfl ?_
         refine lv 0 (.int .i64 3) rfl rfl (by intro x hx; go_simp; all_goals exact rfl) ?_
         simp only [sA, sB]
         refine lm 1 23 rfl rfl rfl rfl ?_
         simp only [sA, sB]
         clear HS
         refine ld fun W40 HS => ?_
         go_wp2
         rw [rounds_succ]
         go_upto_region 5 with fail
         refine lnb HS.out rfl ?_
         refine lv 0 (.bool true) rfl rfl (by intro x hx; go_simp; all_goals exact rfl) ?_
         simp only [sA, sB]
         clear HS
         refine ld fun W41 HS => ?_
         go_upto_region 6 with fail
         refine lnb HS.out rfl ?_
         refine lv 0 (.func (.func 51) #[] #[.pointer (some ⟨w.heap.size, 0, none⟩)]) rfl rfl (by intro x hx; go_simp; all_goals exact rfl) ?_
         simp only [sA, sB]
         refine la 1 18 rfl rfl rfl rfl ?_
         simp only [sA, sB]
         clear HS
         refine ld fun W42 HS => ?_
         go_upto_region 7 with fail
         refine lnb HS.out rfl ?_
         refine lm 0 6 rfl rfl rfl rfl ?_
         simp only [sA, sB]
         refine lin_call_to (i := 1) (f := 51) (args := #[.pointer (some ⟨w.heap.size, 0, none⟩)]) (v := .bool ((rule4 ((rule3 ((rule2 ((rule1 ((rule5 ((rule4 ((rule3 ((rule2 ((rule1 x0).1)).1)).1)).1)).1)).1)).1)).1)).2)) (T := St w [⟨w.heap.size, [some (.int .u64 (tn ((((rule4 ((rule3 ((rule2 ((rule1 ((rule5 ((rule4 ((rule3 ((rule2 ((rule1 x0).1)).1)).1)).1)).1)).1)).1)).1)).1).t).lo))), some (.int .u64 (tn ((((rule4 ((rule3 ((rule2 ((rule1 ((rule5 ((rule4 ((rule3 ((rule2 ((rule1 x0).1)).1)).1)).1)).1)).1)).1)).1)).1).t).hi))), some (.int .u64 (tn ((((rule4 ((rule3 ((rule2 ((rule1 ((rule5 ((rule4 ((rule3 ((rule2 ((rule1 x0).1)).1)).1)).1)).1)).1)).1)).1)).1).u).lo))), some (.int .u64 (tn ((((rule4 ((rule3 ((rule2 ((rule1 ((rule5 ((rule4 ((rule3 ((rule2 ((rule1 x0).1)).1)).1)).1)).1)).1)).1)).1)).1).u).hi))), some (.int .i64 (ti ((((rule4 ((rule3 ((rule2 ((rule1 ((rule5 ((rule4 ((rule3 ((rule2 ((rule1 x0).1)).1)).1)).1)).1)).1)).1)).1)).1).s).lo))), some (.int .i64 (ti ((((rule4 ((rule3 ((rule2 ((rule1 ((rule5 ((rule4 ((rule3 ((rule2 ((rule1 x0).1)).1)).1)).1)).1)).1)).1)).1)).1).s).hi)))], 31⟩, ⟨w.heap.size + 1, [some (.int .u64 0), some (.int .u64 0), some (.int .u64 0), some (.int .u64 0), some (.int .i64 0), some (.int .i64 0)], 31⟩, ⟨k1, [some (.func (.func 43) #[] #[.pointer (some ⟨w.heap.size, 0, none⟩)]), some (.func (.func 46) #[] #[.pointer (some ⟨w.heap.size, 0, none⟩)]), some (.func (.func 49) #[] #[.pointer (some ⟨w.heap.size, 0, none⟩)]), some (.func (.func 51) #[] #[.pointer (some ⟨w.heap.size, 0, none⟩)]), some (.func (.func 53) #[] #[.pointer (some ⟨w.heap.size, 0, none⟩)])], 86⟩]) rfl rfl (by rfl) (fun x hx => by kernel_rfl) (by intro x hx; exact rule4_any w w.heap.size (w.heap.size + 1) k1 ((rule3 ((rule2 ((rule1 ((rule5 ((rule4 ((rule3 ((rule2 ((rule1 x0).1)).1)).1)).1)).1)).1)).1)).1) _ hx) ?_
         simp only [sA, sB]
         refine lv 2 (.bool ((!((rule4 ((rule3 ((rule2 ((rule1 ((rule5 ((rule4 ((rule3 ((rule2 ((rule1 x0).1)).1)).1)).1)).1)).1)).1)).1)).2)))) rfl rfl (by intro x hx; go_simp; all_goals exact rfl) ?_
         simp only [sA, sB]
         clear HS
         refine ld fun W43 HS => ?_
         cases h9 : ((!((rule4 ((rule3 ((rule2 ((rule1 ((rule5 ((rule4 ((rule3 ((rule2 ((rule1 x0).1)).1)).1)).1)).1)).1)).1)).1)).2)))
         ·replace h9 := hid h9
          go_upto_region 9 with fail
          refine lnb HS.out rfl ?_
          refine lv 0 (.int .i64 4) rfl rfl (by intro x hx; go_simp; all_goals exact rfl) ?_
          simp only [sA, sB]
          refine lm 1 23 rfl rfl rfl rfl ?_
          simp only [sA, sB]
          clear HS
          refine ld fun W44 HS => ?_
          go_wp2
          rw [rounds_succ]
          go_upto_region 5 with fail
          refine lnb HS.out rfl ?_
          refine lv 0 (.bool true) rfl rfl (by intro x hx; go_simp; all_goals exact rfl) ?_
          simp only [sA, sB]
          clear HS
          refine ld fun W45 HS => ?_
          go_upto_region 6 with fail
          refine lnb HS.out rfl ?_
          refine lv 0 (.func (.func 53) #[] #[.pointer (some ⟨w.heap.size, 0, none⟩)]) rfl rfl (by intro x hx; go_simp; all_goals exact rfl) ?_
          simp only [sA, sB]
          refine la 1 18 rfl rfl rfl rfl ?_
          simp only [sA, sB]
          clear HS
          refine ld fun W46 HS => ?_
          go_upto_region 7 with fail
          refine lnb HS.out rfl ?_
          refine lm 0 6 rfl rfl rfl rfl ?_
          simp only [sA, sB]
          refine lin_call_to (i := 1) (f := 53) (args := #[.pointer (some ⟨w.heap.size, 0, none⟩)]) (v := .bool ((rule5 ((rule4 ((rule3 ((rule2 ((rule1 ((rule5 ((rule4 ((rule3 ((rule2 ((rule1 x0).1)).1)).1)).1)).1)).1)).1)).1)).1)).2)) (T := St w [⟨w.heap.size, [some (.int .u64 (tn ((((rule5 ((rule4 ((rule3 ((rule2 ((rule1 ((rule5 ((rule4 ((rule3 ((rule2 ((rule1 x0).1)).1)).1)).1)).1)).1)).1)).1)).1)).1).t).lo))), some (.int .u64 (tn ((((rule5 ((rule4 ((rule3 ((rule2 ((rule1 ((rule5 ((rule4 ((rule3 ((rule2 ((rule1 x0).1)).1)).1)).1)).1)).1)).1)).1)).1)).1).t).hi))), some (.int .u64 (tn ((((rule5 ((rule4 ((rule3 ((rule2 ((rule1 ((rule5 ((rule4 ((rule3 ((rule2 ((rule1 x0).1)).1)).1)).1)).1)).1)).1)).1)).1)).1).u).lo))), some (.int .u64 (tn ((((rule5 ((rule4 ((rule3 ((rule2 ((rule1 ((rule5 ((rule4 ((rule3 ((rule2 ((rule1 x0).1)).1)).1)).1)).1)).1)).1)).1)).1)).1).u).hi))), some (.int .i64 (ti ((((rule5 ((rule4 ((rule3 ((rule2 ((rule1 ((rule5 ((rule4 ((rule3 ((rule2 ((rule1 x0).1)).1)).1)).1)).1)).1)).1)).1)).1)).1).s).lo))), some (.int .i64 (ti ((((rule5 ((rule4 ((rule3 ((rule2 ((rule1 ((rule5 ((rule4 ((rule3 ((rule2 ((rule1 x0).1)).1)).1)).1)).1)).1)).1)).1)).1)).1).s).hi)))], 31⟩, ⟨w.heap.size + 1, [some (.int .u64 0), some (.int .u64 0), some (.int .u64 0), some (.int .u64 0), some (.int .i64 0), some (.int .i64 0)], 31⟩, ⟨k1, [some (.func (.func 43) #[] #[.pointer (some ⟨w.heap.size, 0, none⟩)]), some (.func (.func 46) #[] #[.pointer (some ⟨w.heap.size, 0, none⟩)]), some (.func (.func 49) #[] #[.pointer (some ⟨w.heap.size, 0, none⟩)]), some (.func (.func 51) #[] #[.pointer (some ⟨w.heap.size, 0, none⟩)]), some (.func (.func 53) #[] #[.pointer (some ⟨w.heap.size, 0, none⟩)])], 86⟩]) rfl rfl (by rfl) (fun x hx => by kernel_rfl) (by intro x hx; exact rule5_any w w.heap.size (w.heap.size + 1) k1 ((rule4 ((rule3 ((rule2 ((rule1 ((rule5 ((rule4 ((rule3 ((rule2 ((rule1 x0).1)).1)).1)).1)).1)).1)).1)).1)).1) _ hx) ?_
          simp only [sA, sB]
          refine lv 2 (.bool ((!((rule5 ((rule4 ((rule3 ((rule2 ((rule1 ((rule5 ((rule4 ((rule3 ((rule2 ((rule1 x0).1)).1)).1)).1)).1)).1)).1)).1)).1)).2)))) rfl rfl (by intro x hx; go_simp; all_goals exact rfl) ?_
          simp only [sA, sB]
          clear HS
          refine ld fun W47 HS => ?_
          cases h10 : ((!((rule5 ((rule4 ((rule3 ((rule2 ((rule1 ((rule5 ((rule4 ((rule3 ((rule2 ((rule1 x0).1)).1)).1)).1)).1)).1)).1)).1)).1)).2)))
          ·replace h10 := hid h10
           go_upto_region 9 with fail
           refine lnb HS.out rfl ?_
           refine lv 0 (.int .i64 5) rfl rfl (by intro x hx; go_simp; all_goals exact rfl) ?_
           simp only [sA, sB]
           refine lm 1 23 rfl rfl rfl rfl ?_
           simp only [sA, sB]
           clear HS
           refine ld fun W48 HS => ?_
           go_wp2
           rw [rounds_succ]
           go_upto_region 5 with fail
           refine lnb HS.out rfl ?_
           refine lv 0 (.bool false) rfl rfl (by intro x hx; go_simp; all_goals exact rfl) ?_
           simp only [sA, sB]
           clear HS
           refine ld fun W49 HS => ?_
           go_upto_region 10 with fail
           refine lnb HS.out rfl ?_
           refine lv 0 (.int .i64 2) rfl rfl (by intro x hx; go_simp; all_goals exact rfl) ?_
           simp only [sA, sB]
           refine lm 1 24 rfl rfl rfl rfl ?_
           simp only [sA, sB]
           clear HS
           refine ld fun W50 HS => ?_
           go_wp2
           rw [rounds_succ]
           go_upto_region 3 with fail
           refine lnb HS.out rfl ?_
           refine lv 0 (.bool false) rfl rfl (by intro x hx; go_simp; all_goals exact rfl) ?_
           simp only [sA, sB]
           clear HS
           refine ld fun W51 HS => ?_
           go_upto_region 11 with fail
           refine lnb HS.out rfl ?_
           refine lv 0 (vS ((rule5 ((rule4 ((rule3 ((rule2 ((rule1 ((rule5 ((rule4 ((rule3 ((rule2 ((rule1 x0).1)).1)).1)).1)).1)).1)).1)).1)).1)).1)) rfl rfl (by intro x hx; obtain ⟨f0, f1, f2, f3, f4, f5⟩ := hx.six 0 0 rfl rfl; go_simp; all_goals exact rfl) ?_
           simp only [sA, sB, vS]
           refine ls 1 1 0 (cS ((rule5 ((rule4 ((rule3 ((rule2 ((rule1 ((rule5 ((rule4 ((rule3 ((rule2 ((rule1 x0).1)).1)).1)).1)).1)).1)).1)).1)).1)).1)) rfl rfl rfl (by intro x hx; obtain ⟨⟨_, z0, q0⟩, ⟨_, z1, q1⟩, ⟨_, z2, q2⟩, ⟨_, z3, q3⟩, ⟨_, z4, q4⟩, ⟨_, z5, q5⟩⟩ := hx.at6 1 0 rfl; go_simp; all_goals rfl) ?_
           simp only [Blk.putC, setM, cS, sA, sB]
           refine lv 2 (.bool true) rfl rfl (by intro x hx; go_simp; all_goals exact rfl) ?_
           simp only [sA, sB]
           clear HS
           refine ld fun W52 HS => ?_
           go_wp2
           obtain ⟨r0, r1, r2, r3, r4, r5⟩ := HS.out.six 1 0 rfl rfl
           have HF : scalar_Norm x0 = ((rule5 ((rule4 ((rule3 ((rule2 ((rule1 ((rule5 ((rule4 ((rule3 ((rule2 ((rule1 x0).1)).1)).1)).1)).1)).1)).1)).1)).1)).1, true) := by
             unfold scalar_Norm
             rw [cond_f h1.out, cond_f h2.out, cond_f h3.out, cond_f h4.out, cond_f h5.out, cond_f h6.out, cond_f h7.out, cond_f h8.out, cond_f h9.out, cond_f h10.out]
           exact bodyPost_ret (v := .tuple #[vS ((rule5 ((rule4 ((rule3 ((rule2 ((rule1 ((rule5 ((rule4 ((rule3 ((rule2 ((rule1 x0).1)).1)).1)).1)).1)).1)).1)).1)).1)).1), .bool true]) (by simp [results, Tryz.results18, go_sem, r0, r1, r2, r3, r4, r5, vS]) rfl ⟨(by first | (rw [HF]; done) | (rw [HF]; rfl)), HS.out.below⟩
          ·replace h10 := hid h10
           go_upto_region 8 with fail
           refine lnb HS.out rfl ?_
           refine lc 0 9 #[] (vS scalar_All) rfl rfl (by intro x hx; exact scalar_All_any _) ?_
           simp only [sA, sB, vS]
           refine ls 1 1 0 (cS scalar_All) rfl rfl rfl (by intro x hx; obtain ⟨⟨_, z0, q0⟩, ⟨_, z1, q1⟩, ⟨_, z2, q2⟩, ⟨_, z3, q3⟩, ⟨_, z4, q4⟩, ⟨_, z5, q5⟩⟩ := hx.at6 1 0 rfl; go_simp; all_goals rfl) ?_
           simp only [Blk.putC, setM, cS, sA, sB]
           refine lv 2 (.bool false) rfl rfl (by intro x hx; go_simp; all_goals exact rfl) ?_
           simp only [sA, sB]
           clear HS
           refine ld fun W48 HS => ?_
           go_wp2
           obtain ⟨r0, r1, r2, r3, r4, r5⟩ := HS.out.six 1 0 rfl rfl
           have HF : scalar_Norm x0 = (scalar_All, false) := by
             unfold scalar_Norm
             rw [cond_f h1.out, cond_f h2.out, cond_f h3.out, cond_f h4.out, cond_f h5.out, cond_f h6.out, cond_f h7.out, cond_f h8.out, cond_f h9.out, cond_t h10.out]
           exact bodyPost_ret (v := .tuple #[vS scalar_All, .bool false]) (by simp [results, Tryz.results18, go_sem, r0, r1, r2, r3, r4, r5, vS]) rfl ⟨(by first | (rw [HF]; done) | (rw [HF]; rfl)), HS.out.below⟩
         ·replace h9 := hid h9
          go_upto_region 8 with fail
          refine lnb HS.out rfl ?_
          refine lc 0 9 #[] (vS scalar_All) rfl rfl (by intro x hx; exact scalar_All_any _) ?_
          simp only [sA, sB, vS]
          refine ls 1 1 0 (cS scalar_All) rfl rfl rfl (by intro x hx; obtain ⟨⟨_, z0, q0⟩, ⟨_, z1, q1⟩, ⟨_, z2, q2⟩, ⟨_, z3, q3⟩, ⟨_, z4, q4⟩, ⟨_, z5, q5⟩⟩ := hx.at6 1 0 rfl; go_simp; all_goals rfl) ?_
          simp only [Blk.putC, setM, cS, sA, sB]
          refine lv 2 (.bool false) rfl rfl (by intro x hx; go_simp; all_goals exact rfl) ?_
          simp only [sA, sB]
          clear HS
          refine ld fun W44 HS => ?_
          go_wp2
          obtain ⟨r0, r1, r2, r3, r4, r5⟩ := HS.out.six 1 0 rfl rfl
          have HF : scalar_Norm x0 = (scalar_All, false) := by
            unfold scalar_Norm
            rw [cond_f h1.out, cond_f h2.out, cond_f h3.out, cond_f h4.out, cond_f h5.out, cond_f h6.out, cond_f h7.out, cond_f h8.out, cond_t h9.out]
          exact bodyPost_ret (v := .tuple #[vS scalar_All, .bool false]) (by simp [results, Tryz.results18, go_sem, r0, r1, r2, r3, r4, r5, vS]) rfl ⟨(by first | (rw [HF]; done) | (rw [HF]; rfl)), HS.out.below⟩
        ·replace h8 := hid h8
         go_upto_region 8 with fail
         refine lnb HS.out rfl ?_
         refine lc 0 9 #[] (vS scalar_All) rfl rfl (by intro x hx; exact scalar_All_any _) ?_
         simp only [sA, sB, vS]
         refine ls 1 1 0 (cS scalar_All) rfl rfl rfl (by intro x hx; obtain ⟨⟨_, z0, q0⟩, ⟨_, z1, q1⟩, ⟨_, z2, q2⟩, ⟨_, z3, q3⟩, ⟨_, z4, q4⟩, ⟨_, z5, q5⟩⟩ := hx.at6 1 0 rfl; go_simp; all_goals rfl) ?_
         simp only [Blk.putC, setM, cS, sA, sB]
         refine lv 2 (.bool false) rfl rfl (by intro x hx; go_simp; all_goals exact rfl) ?_
         simp only [sA, sB]
         clear HS
         refine ld fun W40 HS => ?_
         go_wp2
         obtain ⟨r0, r1, r2, r3, r4, r5⟩ := HS.out.six 1 0 rfl rfl
         have HF : scalar_Norm x0 = (scalar_All, false) := by
           unfold scalar_Norm
           rw [cond_f h1.out, cond_f h2.out, cond_f h3.out, cond_f h4.out, cond_f h5.out, cond_f h6.out, cond_f h7.out, cond_t h8.out]
         exact bodyPost_ret (v := .tuple #[vS scalar_All, .bool false]) (by simp [results, Tryz.results18, go_sem, r0, r1, r2, r3, r4, r5, vS]) rfl ⟨(by first | (rw [HF]; done) | (rw [HF]; rfl)), HS.out.below⟩
       ·replace h7 := hid h7
        go_upto_region 8 with fail
        refine lnb HS.out rfl ?_
        refine lc 0 9 #[] (vS scalar_All) rfl rfl (by intro x hx; exact scalar_All_any _) ?_
        simp only [sA, sB, vS]
        refine ls 1 1 0 (cS scalar_All) rfl rfl rfl (by intro x hx; obtain ⟨⟨_, z0, q0⟩, ⟨_, z1, q1⟩, ⟨_, z2, q2⟩, ⟨_, z3, q3⟩, ⟨_, z4, q4⟩, ⟨_, z5, q5⟩⟩ := hx.at6 1 0 rfl; go_simp; all_goals rfl) ?_
        simp only [Blk.putC, setM, cS, sA, sB]
        refine lv 2 (.bool false) rfl rfl (by intro x hx; go_simp; all_goals exact rfl) ?_
        simp only [sA, sB]
        clear HS
        refine ld fun W36 HS => ?_
        go_wp2
        obtain ⟨r0, r1, r2, r3, r4, r5⟩ := HS.out.six 1 0 rfl rfl
        have HF : scalar_Norm x0 = (scalar_All, false) := by
          unfold scalar_Norm
          rw [cond_f h1.out, cond_f h2.out, cond_f h3.out, cond_f h4.out, cond_f h5.out, cond_f h6.out, cond_t h7.out]
        exact bodyPost_ret (v := .tuple #[vS scalar_All, .bool false]) (by simp [results, Tryz.results18, go_sem, r0, r1, r2, r3, r4, r5, vS]) rfl ⟨(by first | (rw [HF]; done) | (rw [HF]; rfl)), HS.out.below⟩
      ·replace h6 := hid h6
       go_upto_region 8 with fail
       refine lnb HS.out rfl ?_
       refine lc 0 9 #[] (vS scalar_All) rfl rfl (by intro x hx; exact scalar_All_any _) ?_
       simp only [sA, sB, vS]
       refine ls 1 1 0 (cS scalar_All) rfl rfl rfl (by intro x hx; obtain ⟨⟨_, z0, q0⟩, ⟨_, z1, q1⟩, ⟨_, z2, q2⟩, ⟨_, z3, q3⟩, ⟨_, z4, q4⟩, ⟨_, z5, q5⟩⟩ := hx.at6 1 0 rfl; go_simp; all_goals rfl) ?_
       simp only [Blk.putC, setM, cS, sA, sB]
       refine lv 2 (.bool false) rfl rfl (by intro x hx; go_simp; all_goals exact rfl) ?_
       simp only [sA, sB]
       clear HS
       refine ld fun W32 HS => ?_
       go_wp2
       obtain ⟨r0, r1, r2, r3, r4, r5⟩ := HS.out.six 1 0 rfl rfl
       have HF : scalar_Norm x0 = (scalar_All, false) := by
         unfold scalar_Norm
         rw [cond_f h1.out, cond_f h2.out, cond_f h3.out, cond_f h4.out, cond_f h5.out, cond_t h6.out]
       exact bodyPost_ret (v := .tuple #[vS scalar_All, .bool false]) (by simp [results, Tryz.results18, go_sem, r0, r1, r2, r3, r4, r5, vS]) rfl ⟨(by first | (rw [HF]; done) | (rw [HF]; rfl)), HS.out.below⟩
     ·replace h5 := hid h5
      go_upto_region 8 with fail
      refine lnb HS.out rfl ?_
      refine lc 0 9 #[] (vS scalar_All) rfl rfl (by intro x hx; exact scalar_All_any _) ?_
      simp only [sA, sB, vS]
      refine ls 1 1 0 (cS scalar_All) rfl rfl rfl (by intro x hx; obtain ⟨⟨_, z0, q0⟩, ⟨_, z1, q1⟩, ⟨_, z2, q2⟩, ⟨_, z3, q3⟩, ⟨_, z4, q4⟩, ⟨_, z5, q5⟩⟩ := hx.at6 1 0 rfl; go_simp; all_goals rfl) ?_
      simp only [Blk.putC, setM, cS, sA, sB]
      refine lv 2 (.bool false) rfl rfl (by intro x hx; go_simp; all_goals exact rfl) ?_
      simp only [sA, sB]
      clear HS
      refine ld fun W24 HS => ?_
      go_wp2
      obtain ⟨r0, r1, r2, r3, r4, r5⟩ := HS.out.six 1 0 rfl rfl
      have HF : scalar_Norm x0 = (scalar_All, false) := by
        unfold scalar_Norm
        rw [cond_f h1.out, cond_f h2.out, cond_f h3.out, cond_f h4.out, cond_t h5.out]
      exact bodyPost_ret (v := .tuple #[vS scalar_All, .bool false]) (by simp [results, Tryz.results18, go_sem, r0, r1, r2, r3, r4, r5, vS]) rfl ⟨(by first | (rw [HF]; done) | (rw [HF]; rfl)), HS.out.below⟩
    ·replace h4 := hid h4
     go_upto_region 8 with fail
     refine lnb HS.out rfl ?_
     refine lc 0 9 #[] (vS scalar_All) rfl rfl (by intro x hx; exact scalar_All_any _) ?_
     simp only [sA, sB, vS]
     refine ls 1 1 0 (cS scalar_All) rfl rfl rfl (by intro x hx; obtain ⟨⟨_, z0, q0⟩, ⟨_, z1, q1⟩, ⟨_, z2, q2⟩, ⟨_, z3, q3⟩, ⟨_, z4, q4⟩, ⟨_, z5, q5⟩⟩ := hx.at6 1 0 rfl; go_simp; all_goals rfl) ?_
     simp only [Blk.putC, setM, cS, sA, sB]
     refine lv 2 (.bool false) rfl rfl (by intro x hx; go_simp; all_goals exact rfl) ?_
     simp only [sA, sB]
     clear HS
     refine ld fun W20 HS => ?_
     go_wp2
     obtain ⟨r0, r1, r2, r3, r4, r5⟩ := HS.out.six 1 0 rfl rfl
     have HF : scalar_Norm x0 = (scalar_All, false) := by
       unfold scalar_Norm
       rw [cond_f h1.out, cond_f h2.out, cond_f h3.out, cond_t h4.out]
     exact bodyPost_ret (v := .tuple #[vS scalar_All, .bool false]) (by simp [results, Tryz.results18, go_sem, r0, r1, r2, r3, r4, r5, vS]) rfl ⟨(by first | (rw [HF]; done) | (rw [HF]; rfl)), HS.out.below⟩
   ·replace h3 := hid h3
    go_upto_region 8 with fail
    refine lnb HS.out rfl ?_
    refine lc 0 9 #[] (vS scalar_All) rfl rfl (by intro x hx; exact scalar_All_any _) ?_
    simp only [sA, sB, vS]
    refine ls 1 1 0 (cS scalar_All) rfl rfl rfl (by intro x hx; obtain ⟨⟨_, z0, q0⟩, ⟨_, z1, q1⟩, ⟨_, z2, q2⟩, ⟨_, z3, q3⟩, ⟨_, z4, q4⟩, ⟨_, z5, q5⟩⟩ := hx.at6 1 0 rfl; go_simp; all_goals rfl) ?_
    simp only [Blk.putC, setM, cS, sA, sB]
    refine lv 2 (.bool false) rfl rfl (by intro x hx; go_simp; all_goals exact rfl) ?_
    simp only [sA, sB]
    clear HS
    refine ld fun W16 HS => ?_
    go_wp2
    obtain ⟨r0, r1, r2, r3, r4, r5⟩ := HS.out.six 1 0 rfl rfl
    have HF : scalar_Norm x0 = (scalar_All, false) := by
      unfold scalar_Norm
      rw [cond_f h1.out, cond_f h2.out, cond_t h3.out]
    exact bodyPost_ret (v := .tuple #[vS scalar_All, .bool false]) (by simp [results, Tryz.results18, go_sem, r0, r1, r2, r3, r4, r5, vS]) rfl ⟨(by first | (rw [HF]; done) | (rw [HF]; rfl)), HS.out.below⟩
  ·replace h2 := hid h2
   go_upto_region 8 with fail
   refine lnb HS.out rfl ?_
   refine lc 0 9 #[] (vS scalar_All) rfl rfl (by intro x hx; exact scalar_All_any _) ?_
   simp only [sA, sB, vS]
   refine ls 1 1 0 (cS scalar_All) rfl rfl rfl (by intro x hx; obtain ⟨⟨_, z0, q0⟩, ⟨_, z1, q1⟩, ⟨_, z2, q2⟩, ⟨_, z3, q3⟩, ⟨_, z4, q4⟩, ⟨_, z5, q5⟩⟩ := hx.at6 1 0 rfl; go_simp; all_goals rfl) ?_
   simp only [Blk.putC, setM, cS, sA, sB]
   refine lv 2 (.bool false) rfl rfl (by intro x hx; go_simp; all_goals exact rfl) ?_
   simp only [sA, sB]
   clear HS
   refine ld fun W12 HS => ?_
   go_wp2
   obtain ⟨r0, r1, r2, r3, r4, r5⟩ := HS.out.six 1 0 rfl rfl
   have HF : scalar_Norm x0 = (scalar_All, false) := by
     unfold scalar_Norm
     rw [cond_f h1.out, cond_t h2.out]
   exact bodyPost_ret (v := .tuple #[vS scalar_All, .bool false]) (by simp [results, Tryz.results18, go_sem, r0, r1, r2, r3, r4, r5, vS]) rfl ⟨(by first | (rw [HF]; done) | (rw [HF]; rfl)), HS.out.below⟩
 ·replace h1 := hid h1
  go_upto_region 8 with fail
  refine lnb HS.out rfl ?_
  refine lc 0 9 #[] (vS scalar_All) rfl rfl (by intro x hx; exact scalar_All_any _) ?_
  simp only [sA, sB, vS]
  refine ls 1 1 0 (cS scalar_All) rfl rfl rfl (by intro x hx; obtain ⟨⟨_, z0, q0⟩, ⟨_, z1, q1⟩, ⟨_, z2, q2⟩, ⟨_, z3, q3⟩, ⟨_, z4, q4⟩, ⟨_, z5, q5⟩⟩ := hx.at6 1 0 rfl; go_simp; all_goals rfl) ?_
  simp only [Blk.putC, setM, cS, sA, sB]
  refine lv 2 (.bool false) rfl rfl (by intro x hx; go_simp; all_goals exact rfl) ?_
  simp only [sA, sB]
  clear HS
  refine ld fun W8 HS => ?_
  go_wp2
  obtain ⟨r0, r1, r2, r3, r4, r5⟩ := HS.out.six 1 0 rfl rfl
  have HF : scalar_Norm x0 = (scalar_All, false) := by
    unfold scalar_Norm
    rw [cond_t h1.out]
  exact bodyPost_ret (v := .tuple #[vS scalar_All, .bool false]) (by simp [results, Tryz.results18, go_sem, r0, r1, r2, r3, r4, r5, vS]) rfl ⟨(by first | (rw [HF]; done) | (rw [HF]; rfl)), HS.out.below⟩
end Go.Proofs.YtmcapfbkedfdkaaGreatDoor.Sp
