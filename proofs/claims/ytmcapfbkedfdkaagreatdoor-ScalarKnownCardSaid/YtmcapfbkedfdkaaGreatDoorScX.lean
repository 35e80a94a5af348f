/-
  The walk of through.
-/
import Derived.Deep.DeepCutAuto
import Derived.Test.YtmcapfbkedfdkaaGreatDoorScW
import Derived.Test.YtmcapfbkedfdkaaGreatDoorLoop
namespace Go.Proofs.YtmcapfbkedfdkaaGreatDoor.Sp
open Go.RowKit Go.Proofs.YtmcapfbkedfdkaaGreatDoor.Num Go.Proofs.YtmcapfbkedfdkaaGreatDoor.Up
set_option maxRecDepth 100000 in
set_option maxHeartbeats 16000000 in
theorem through_yes (x0 : BitVec 64) (x1 : Bool) (x2 : BitVec 64) (x3 : BitVec 64) (x4 : BitVec 64) (x5 : BitVec 64)  (h1 : tn x2 ≤ tn x3) (h2 : tn x3 ≤ 4) (h3 : tn x4 ≤ tn x5) (h4 : tn x5 ≤ 4) (w : World) (hT : Tn.Tab w) :
   Calls Tryz.prog 4 #[.int .i64 (ti (x0)), .bool (x1), .int .u64 (tn (x2)), .int .u64 (tn (x3)), .int .u64 (tn (x4)), .int .u64 (tn (x5))] w fun e w' => e = .returned (.bool true) ∧ Below w.heap.size w w' := by
 have HT := hid hT
 clear hT
 have Hh1 := hid h1
 clear h1
 have Hh2 := hid h2
 clear h2
 have Hh3 := hid h3
 clear h3
 have Hh4 := hid h4
 clear h4
 go_enter Tryz.func4, Tryz.ntmps4
 have HS : Hid (St w [] _) := hid (st_nil w)
 go_upto_region 1 with fail
 refine lnb HS.out rfl ?_
 refine lm 0 2 rfl rfl rfl rfl ?_
 simp only [sA, sB]
 refine lm 1 3 rfl rfl rfl rfl ?_
 simp only [sA, sB]
 refine lc 2 6 #[.int .u64 (tn (x2)), .int .u64 (tn (x3))] (vS (btw x2 x3)) rfl rfl (by intro x hx; exact btw_any x2 x3 _) ?_
 simp only [sA, sB, vS]
 refine lin_new (i := 3) rfl rfl (by rfl) [.int .u64 0, .int .u64 0, .int .u64 0, .int .u64 0, .int .i64 0, .int .i64 0] 31 (fun k => .pointer (some ⟨k, 0, none⟩)) [some (.int .u64 0), some (.int .u64 0), some (.int .u64 0), some (.int .u64 0), some (.int .i64 0), some (.int .i64 0)] (lessC_refl _) (by intro x hx; go_simp; all_goals exact rfl) (fun k1 => ?_)
 simp only [sA, sB, sD]
 refine ls 4 0 0 (cS (btw x2 x3)) rfl rfl rfl (by intro x hx; obtain ⟨⟨_, z0, q0⟩, ⟨_, z1, q1⟩, ⟨_, z2, q2⟩, ⟨_, z3, q3⟩, ⟨_, z4, q4⟩, ⟨_, z5, q5⟩⟩ := hx.at6 0 0 rfl; go_simp; all_goals rfl) ?_
 simp only [Blk.putC, setM, cS, sA, sB]
 clear HS
 refine ld fun W1 HS => ?_
 go_upto_region 2 with fail
 refine lnb HS.out rfl ?_
 refine lm 0 4 rfl rfl rfl rfl ?_
 simp only [sA, sB]
 refine lm 1 5 rfl rfl rfl rfl ?_
 simp only [sA, sB]
 refine lc 2 6 #[.int .u64 (tn (x4)), .int .u64 (tn (x5))] (vS (btw x4 x5)) rfl rfl (by intro x hx; exact btw_any x4 x5 _) ?_
 simp only [sA, sB, vS]
 refine lin_new (i := 3) rfl rfl (by rfl) [.int .u64 0, .int .u64 0, .int .u64 0, .int .u64 0, .int .i64 0, .int .i64 0] 31 (fun k => .pointer (some ⟨k, 0, none⟩)) [some (.int .u64 0), some (.int .u64 0), some (.int .u64 0), some (.int .u64 0), some (.int .i64 0), some (.int .i64 0)] (lessC_refl _) (by intro x hx; go_simp; all_goals exact rfl) (fun k2 => ?_)
 simp only [sA, sB, sC, sD]
 refine ls 4 1 0 (cS (btw x4 x5)) rfl rfl rfl (by intro x hx; obtain ⟨⟨_, z0, q0⟩, ⟨_, z1, q1⟩, ⟨_, z2, q2⟩, ⟨_, z3, q3⟩, ⟨_, z4, q4⟩, ⟨_, z5, q5⟩⟩ := hx.at6 1 0 rfl; go_simp; all_goals rfl) ?_
 simp only [Blk.putC, setM, cS, sA, sB]
 clear HS
 refine ld fun W2 HS => ?_
 go_upto_region 3 with fail
 refine lnb HS.out rfl ?_
 refine lm 0 0 rfl rfl rfl rfl ?_
 simp only [sA, sB]
 refine lm 1 1 rfl rfl rfl rfl ?_
 simp only [sA, sB]
 refine lv 2 (vS (btw x2 x3)) rfl rfl (by intro x hx; obtain ⟨f0, f1, f2, f3, f4, f5⟩ := hx.six 0 0 rfl rfl; go_simp; all_goals exact rfl) ?_
 simp only [sA, sB, vS]
 refine lv 3 (vS (btw x4 x5)) rfl rfl (by intro x hx; obtain ⟨f0, f1, f2, f3, f4, f5⟩ := hx.six 1 0 rfl rfl; go_simp; all_goals exact rfl) ?_
 simp only [sA, sB, vS]
 refine lc 4 8 #[.int .i64 (ti (x0)), .bool (x1), vS (btw x2 x3), vS (btw x4 x5)] (vS (scalar_Alu x0 x1 (btw x2 x3) (btw x4 x5))) rfl rfl (by intro x hx; exact scalar_Alu_any x0 x1 (btw x2 x3) (btw x4 x5) _ (HT.out.up hx.below)) ?_
 simp only [sA, sB, vS]
 refine lin_new (i := 5) rfl rfl (by rfl) [.int .u64 0, .int .u64 0, .int .u64 0, .int .u64 0, .int .i64 0, .int .i64 0] 31 (fun k => .pointer (some ⟨k, 0, none⟩)) [some (.int .u64 0), some (.int .u64 0), some (.int .u64 0), some (.int .u64 0), some (.int .i64 0), some (.int .i64 0)] (lessC_refl _) (by intro x hx; go_simp; all_goals exact rfl) (fun k3 => ?_)
 simp only [sA, sB, sC, sD]
 refine ls 6 2 0 (cS (scalar_Alu x0 x1 (btw x2 x3) (btw x4 x5))) rfl rfl rfl (by intro x hx; obtain ⟨⟨_, z0, q0⟩, ⟨_, z1, q1⟩, ⟨_, z2, q2⟩, ⟨_, z3, q3⟩, ⟨_, z4, q4⟩, ⟨_, z5, q5⟩⟩ := hx.at6 2 0 rfl; go_simp; all_goals rfl) ?_
 simp only [Blk.putC, setM, cS, sA, sB]
 clear HS
 refine ld fun W3 HS => ?_
 go_upto_region 4 with fail
 refine lnb HS.out rfl ?_
 refine lv 0 (.agg #[.bool false, .bool false]) rfl rfl (by intro x hx; go_simp; all_goals exact rfl) ?_
 simp only [sA, sB]
 refine lin_new (i := 1) rfl rfl (by rfl) [.bool false, .bool false] 39 (fun k => .pointer (some ⟨k, 0, none⟩)) [some (.bool false), some (.bool false)] (lessC_refl _) (by intro x hx; go_simp; all_goals exact rfl) (fun k4 => ?_)
 simp only [sA, sB, sC, sD]
 refine ls 2 3 0 [.bool false, .bool false] rfl rfl rfl (by intro x hx; obtain ⟨⟨_, z0, q0⟩, ⟨_, z1, q1⟩⟩ := hx.at2 3 0 rfl; go_simp; all_goals rfl) ?_
 simp only [Blk.putC, setM, sA, sB]
 clear HS
 refine ld fun W4 HS => ?_
 go_upto_region 5 with fail
 refine lnb HS.out rfl ?_
 refine lm 0 2 rfl rfl rfl rfl ?_
 simp only [sA, sB]
 refine la 1 46 rfl rfl rfl rfl ?_
 simp only [sA, sB]
 clear HS
 refine ld fun W5 HS => ?_
 go_wp2
 refine loop_up (cnt x2 x3) (fun k a W => Hid (∃ u1_12 u1_18 u1_19 u1_20 u1_21 u1_22 u1_23 u1_24 u1_25 u1_26 u1_47 u1_48 u1_49 u1_50 u1_51 u1_52 u1_53 u1_54 u1_55 u1_56 u1_57 u1_58 u1_59 u1_60 u1_61 u1_62 u1_63 u1_64 u1_65 u1_66 u1_67 u1_68 u1_69 u1_70 u1_71 u1_72 u1_73 u1_74 u1_75 u1_76 u1_77 u1_78 u1_79 u1_80 u1_81 u1_82 u1_83 u1_84 u1_85 u1_86 u1_87 u1_88 u1_89 u1_90 u1_91 u1_92 u1_93 u1_94 u1_95 u1_96 u1_97 u1_98 u1_99 u1_100 u1_101 u1_102 u1_103 u1_104 u1_105 u1_106 u1_107 u1_108 u1_109 u1_110 u1_111 u1_112 u1_113 u1_114 u1_115 u1_116 u1_117 u1_118 : Value, a = Act.mk [.int .i64 (ti (x0)), .bool (x1), .int .u64 (tn (x2)), .int .u64 (tn (x3)), .int .u64 (tn (x4)), .int .u64 (tn (x5)), undef, undef, undef, undef, undef, undef, u1_12, .pointer (some ⟨k1, 0, none⟩), .pointer (some ⟨k2, 0, none⟩), .pointer (some ⟨k3, 0, none⟩), .pointer (some ⟨k4, 0, none⟩), .int .u64 (tn (numAt x2 k)), u1_18, u1_19, u1_20, u1_21, u1_22, u1_23, u1_24, u1_25, u1_26, undef, undef, undef, undef, undef, undef, undef, .int .u64 (tn (x2)), .int .u64 (tn (x3)), vS (btw x2 x3), .int .u64 (tn (x4)), .int .u64 (tn (x5)), vS (btw x4 x5), .int .i64 (ti (x0)), .bool (x1), vS (btw x2 x3), vS (btw x4 x5), vS (scalar_Alu x0 x1 (btw x2 x3) (btw x4 x5)), .agg #[.bool false, .bool false], .int .u64 (tn (x2)), u1_47, u1_48, u1_49, u1_50, u1_51, u1_52, u1_53, u1_54, u1_55, u1_56, u1_57, u1_58, u1_59, u1_60, u1_61, u1_62, u1_63, u1_64, u1_65, u1_66, u1_67, u1_68, u1_69, u1_70, u1_71, u1_72, u1_73, u1_74, u1_75, u1_76, u1_77, u1_78, u1_79, u1_80, u1_81, u1_82, u1_83, u1_84, u1_85, u1_86, u1_87, u1_88, u1_89, u1_90, u1_91, u1_92, u1_93, u1_94, u1_95, u1_96, u1_97, u1_98, u1_99, u1_100, u1_101, u1_102, u1_103, u1_104, u1_105, u1_106, u1_107, u1_108, u1_109, u1_110, u1_111, u1_112, u1_113, u1_114, u1_115, u1_116, u1_117, u1_118, undef, undef, undef, undef, undef, undef, undef, undef, undef, undef, undef, undef, undef, undef, undef, undef, undef, undef, undef, undef, undef, undef, undef, undef, undef, undef, undef, undef, undef, undef, undef, undef, undef, undef, undef, undef, undef, undef, undef, undef, undef, undef, undef, undef, undef, undef, undef, undef, undef, undef, undef, undef, undef, undef, undef, undef].toArray [] ∧ St w [⟨k1, [some (.int .u64 (tn (((btw x2 x3).t).lo))), some (.int .u64 (tn (((btw x2 x3).t).hi))), some (.int .u64 (tn (((btw x2 x3).u).lo))), some (.int .u64 (tn (((btw x2 x3).u).hi))), some (.int .i64 (ti (((btw x2 x3).s).lo))), some (.int .i64 (ti (((btw x2 x3).s).hi)))], 31⟩, ⟨k2, [some (.int .u64 (tn (((btw x4 x5).t).lo))), some (.int .u64 (tn (((btw x4 x5).t).hi))), some (.int .u64 (tn (((btw x4 x5).u).lo))), some (.int .u64 (tn (((btw x4 x5).u).hi))), some (.int .i64 (ti (((btw x4 x5).s).lo))), some (.int .i64 (ti (((btw x4 x5).s).hi)))], 31⟩, ⟨k3, [some (.int .u64 (tn (((scalar_Alu x0 x1 (btw x2 x3) (btw x4 x5)).t).lo))), some (.int .u64 (tn (((scalar_Alu x0 x1 (btw x2 x3) (btw x4 x5)).t).hi))), some (.int .u64 (tn (((scalar_Alu x0 x1 (btw x2 x3) (btw x4 x5)).u).lo))), some (.int .u64 (tn (((scalar_Alu x0 x1 (btw x2 x3) (btw x4 x5)).u).hi))), some (.int .i64 (ti (((scalar_Alu x0 x1 (btw x2 x3) (btw x4 x5)).s).lo))), some (.int .i64 (ti (((scalar_Alu x0 x1 (btw x2 x3) (btw x4 x5)).s).hi)))], 31⟩, ⟨k4, [some (.bool ((canTo x0 x1 x2 x4 false (cnt x4 x5) k))), some (.bool ((canTo x0 x1 x2 x4 true (cnt x4 x5) k)))], 39⟩] W)) (hid ⟨(.bool false), (undef), (undef), (undef), (undef), (undef), (undef), (undef), (undef), (undef), (undef), (undef), (undef), (undef), (undef), (undef), (undef), (undef), (undef), (undef), (undef), (undef), (undef), (undef), (undef), (undef), (undef), (undef), (undef), (undef), (undef), (undef), (undef), (undef), (undef), (undef), (undef), (undef), (undef), (undef), (undef), (undef), (undef), (undef), (undef), (undef), (undef), (undef), (undef), (undef), (undef), (undef), (undef), (undef), (undef), (undef), (undef), (undef), (undef), (undef), (undef), (undef), (undef), (undef), (undef), (undef), (undef), (undef), (undef), (undef), (undef), (undef), (undef), (undef), (undef), (undef), (undef), (undef), (undef), (undef), (undef), (undef), rfl, HS.out⟩) (fun r1 a W hr hR => ?_)
 obtain ⟨u1_12, u1_18, u1_19, u1_20, u1_21, u1_22, u1_23, u1_24, u1_25, u1_26, u1_47, u1_48, u1_49, u1_50, u1_51, u1_52, u1_53, u1_54, u1_55, u1_56, u1_57, u1_58, u1_59, u1_60, u1_61, u1_62, u1_63, u1_64, u1_65, u1_66, u1_67, u1_68, u1_69, u1_70, u1_71, u1_72, u1_73, u1_74, u1_75, u1_76, u1_77, u1_78, u1_79, u1_80, u1_81, u1_82, u1_83, u1_84, u1_85, u1_86, u1_87, u1_88, u1_89, u1_90, u1_91, u1_92, u1_93, u1_94, u1_95, u1_96, u1_97, u1_98, u1_99, u1_100, u1_101, u1_102, u1_103, u1_104, u1_105, u1_106, u1_107, u1_108, u1_109, u1_110, u1_111, u1_112, u1_113, u1_114, u1_115, u1_116, u1_117, u1_118, rfl, hS⟩ := hR.out
 replace HS := hid hS
 clear hS hR
 by_cases hlt1 : r1 < (cnt x2 x3)
 · -- round
   have HV := hid (btw_in (num_bd Hh2.out hlt1).1 (num_bd Hh2.out hlt1).2)
   go_upto_region 6 with fail
   refine lnb HS.out rfl ?_
   refine lm 0 17 rfl rfl rfl rfl ?_
   simp only [sA, sB]
   refine lm 1 3 rfl rfl rfl rfl ?_
   simp only [sA, sB]
   refine lv 2 (.bool true) rfl rfl (by intro x hx; go_simp; (first | done | (first | exact num_le Hh2.out hlt1 | exact eq_of_beq (num_le Hh2.out hlt1) | exact congrArg _ (num_le Hh2.out hlt1) | (rw [num_le Hh2.out hlt1]; done) | ((first | rfl | exact leUT (numAt x2 r1) x3 | exact congrArg _ (leUT (numAt x2 r1) x3) | (rw [leUT (numAt x2 r1) x3]; done) | (rw [leUT (numAt x2 r1) x3]; rfl)); rw [num_le Hh2.out hlt1]) | exact congrArg tn (eq_of_beq (num_le Hh2.out hlt1)) | exact congrArg ti (eq_of_beq (num_le Hh2.out hlt1)) | exact congrArg tn (eq_of_bne (num_le Hh2.out hlt1)) | exact of_decide_eq_true (num_le Hh2.out hlt1) | exact Int.not_le.1 (of_decide_eq_false (num_le Hh2.out hlt1)) | exact Int.not_lt.1 (of_decide_eq_false (num_le Hh2.out hlt1)) | simpa using (num_le Hh2.out hlt1)))) ?_
   simp only [sA, sB]
   clear HS
   refine ld fun W6 HS => ?_
   go_upto_region 8 with fail
   refine lnb HS.out rfl ?_
   refine lm 0 4 rfl rfl rfl rfl ?_
   simp only [sA, sB]
   refine la 1 52 rfl rfl rfl rfl ?_
   simp only [sA, sB]
   clear HS
   refine ld fun W7 HS => ?_
   go_wp2
   refine loop_up (cnt x4 x5) (fun k a W => Hid (∃ u2_12 u2_19 u2_20 u2_21 u2_22 u2_23 u2_24 u2_25 u2_26 u2_53 u2_54 u2_55 u2_56 u2_57 u2_58 u2_59 u2_60 u2_61 u2_62 u2_63 u2_64 u2_65 u2_66 u2_67 u2_68 u2_69 u2_70 u2_71 u2_72 u2_73 u2_74 u2_75 u2_76 u2_77 u2_78 u2_79 u2_80 u2_81 u2_82 u2_83 u2_84 u2_85 u2_86 u2_87 u2_88 u2_89 u2_90 u2_91 u2_92 u2_93 u2_94 u2_95 u2_96 u2_97 u2_98 u2_99 u2_100 u2_101 u2_102 u2_103 u2_104 u2_105 u2_106 u2_107 u2_108 u2_109 u2_110 u2_111 u2_112 u2_113 u2_114 u2_115 u2_116 u2_117 u2_118 : Value, a = Act.mk [.int .i64 (ti (x0)), .bool (x1), .int .u64 (tn (x2)), .int .u64 (tn (x3)), .int .u64 (tn (x4)), .int .u64 (tn (x5)), undef, undef, undef, undef, undef, undef, u2_12, .pointer (some ⟨k1, 0, none⟩), .pointer (some ⟨k2, 0, none⟩), .pointer (some ⟨k3, 0, none⟩), .pointer (some ⟨k4, 0, none⟩), .int .u64 (tn (numAt x2 r1)), .int .u64 (tn (numAt x4 k)), u2_19, u2_20, u2_21, u2_22, u2_23, u2_24, u2_25, u2_26, undef, undef, undef, undef, undef, undef, undef, .int .u64 (tn (x2)), .int .u64 (tn (x3)), vS (btw x2 x3), .int .u64 (tn (x4)), .int .u64 (tn (x5)), vS (btw x4 x5), .int .i64 (ti (x0)), .bool (x1), vS (btw x2 x3), vS (btw x4 x5), vS (scalar_Alu x0 x1 (btw x2 x3) (btw x4 x5)), .agg #[.bool false, .bool false], .int .u64 (tn (x2)), .int .u64 (tn (numAt x2 r1)), .int .u64 (tn (x3)), .bool true, u1_50, u1_51, .int .u64 (tn (x4)), u2_53, u2_54, u2_55, u2_56, u2_57, u2_58, u2_59, u2_60, u2_61, u2_62, u2_63, u2_64, u2_65, u2_66, u2_67, u2_68, u2_69, u2_70, u2_71, u2_72, u2_73, u2_74, u2_75, u2_76, u2_77, u2_78, u2_79, u2_80, u2_81, u2_82, u2_83, u2_84, u2_85, u2_86, u2_87, u2_88, u2_89, u2_90, u2_91, u2_92, u2_93, u2_94, u2_95, u2_96, u2_97, u2_98, u2_99, u2_100, u2_101, u2_102, u2_103, u2_104, u2_105, u2_106, u2_107, u2_108, u2_109, u2_110, u2_111, u2_112, u2_113, u2_114, u2_115, u2_116, u2_117, u2_118, undef, undef, undef, undef, undef, undef, undef, undef, undef, undef, undef, undef, undef, undef, undef, undef, undef, undef, undef, undef, undef, undef, undef, undef, undef, undef, undef, undef, undef, undef, undef, undef, undef, undef, undef, undef, undef, undef, undef, undef, undef, undef, undef, undef, undef, undef, undef, undef, undef, undef, undef, undef, undef, undef, undef, undef].toArray [] ∧ St w [⟨k1, [some (.int .u64 (tn (((btw x2 x3).t).lo))), some (.int .u64 (tn (((btw x2 x3).t).hi))), some (.int .u64 (tn (((btw x2 x3).u).lo))), some (.int .u64 (tn (((btw x2 x3).u).hi))), some (.int .i64 (ti (((btw x2 x3).s).lo))), some (.int .i64 (ti (((btw x2 x3).s).hi)))], 31⟩, ⟨k2, [some (.int .u64 (tn (((btw x4 x5).t).lo))), some (.int .u64 (tn (((btw x4 x5).t).hi))), some (.int .u64 (tn (((btw x4 x5).u).lo))), some (.int .u64 (tn (((btw x4 x5).u).hi))), some (.int .i64 (ti (((btw x4 x5).s).lo))), some (.int .i64 (ti (((btw x4 x5).s).hi)))], 31⟩, ⟨k3, [some (.int .u64 (tn (((scalar_Alu x0 x1 (btw x2 x3) (btw x4 x5)).t).lo))), some (.int .u64 (tn (((scalar_Alu x0 x1 (btw x2 x3) (btw x4 x5)).t).hi))), some (.int .u64 (tn (((scalar_Alu x0 x1 (btw x2 x3) (btw x4 x5)).u).lo))), some (.int .u64 (tn (((scalar_Alu x0 x1 (btw x2 x3) (btw x4 x5)).u).hi))), some (.int .i64 (ti (((scalar_Alu x0 x1 (btw x2 x3) (btw x4 x5)).s).lo))), some (.int .i64 (ti (((scalar_Alu x0 x1 (btw x2 x3) (btw x4 x5)).s).hi)))], 31⟩, ⟨k4, [some (.bool ((canTo x0 x1 x2 x4 false (cnt x4 x5) r1 || rowTo x0 x1 x2 x4 false r1 k))), some (.bool ((canTo x0 x1 x2 x4 true (cnt x4 x5) r1 || rowTo x0 x1 x2 x4 true r1 k)))], 39⟩] W)) (hid ⟨(u1_12), (u1_19), (u1_20), (u1_21), (u1_22), (u1_23), (u1_24), (u1_25), (u1_26), (u1_53), (u1_54), (u1_55), (u1_56), (u1_57), (u1_58), (u1_59), (u1_60), (u1_61), (u1_62), (u1_63), (u1_64), (u1_65), (u1_66), (u1_67), (u1_68), (u1_69), (u1_70), (u1_71), (u1_72), (u1_73), (u1_74), (u1_75), (u1_76), (u1_77), (u1_78), (u1_79), (u1_80), (u1_81), (u1_82), (u1_83), (u1_84), (u1_85), (u1_86), (u1_87), (u1_88), (u1_89), (u1_90), (u1_91), (u1_92), (u1_93), (u1_94), (u1_95), (u1_96), (u1_97), (u1_98), (u1_99), (u1_100), (u1_101), (u1_102), (u1_103), (u1_104), (u1_105), (u1_106), (u1_107), (u1_108), (u1_109), (u1_110), (u1_111), (u1_112), (u1_113), (u1_114), (u1_115), (u1_116), (u1_117), (u1_118), rfl, (by simp only [rowTo, Bool.or_false]; exact HS.out)⟩) (fun r2 a W hr hR => ?_)
   obtain ⟨u2_12, u2_19, u2_20, u2_21, u2_22, u2_23, u2_24, u2_25, u2_26, u2_53, u2_54, u2_55, u2_56, u2_57, u2_58, u2_59, u2_60, u2_61, u2_62, u2_63, u2_64, u2_65, u2_66, u2_67, u2_68, u2_69, u2_70, u2_71, u2_72, u2_73, u2_74, u2_75, u2_76, u2_77, u2_78, u2_79, u2_80, u2_81, u2_82, u2_83, u2_84, u2_85, u2_86, u2_87, u2_88, u2_89, u2_90, u2_91, u2_92, u2_93, u2_94, u2_95, u2_96, u2_97, u2_98, u2_99, u2_100, u2_101, u2_102, u2_103, u2_104, u2_105, u2_106, u2_107, u2_108, u2_109, u2_110, u2_111, u2_112, u2_113, u2_114, u2_115, u2_116, u2_117, u2_118, rfl, hS⟩ := hR.out
   replace HS := hid hS
   clear hS hR
   by_cases hlt2 : r2 < (cnt x4 x5)
   · -- round
     have HW := hid (btw_in (num_bd Hh4.out hlt2).1 (num_bd Hh4.out hlt2).2)
     go_upto_region 9 with fail
     refine lnb HS.out rfl ?_
     refine lm 0 18 rfl rfl rfl rfl ?_
     simp only [sA, sB]
     refine lm 1 5 rfl rfl rfl rfl ?_
     simp only [sA, sB]
     refine lv 2 (.bool true) rfl rfl (by intro x hx; go_simp; (first | done | (first | exact num_le Hh4.out hlt2 | exact eq_of_beq (num_le Hh4.out hlt2) | exact congrArg _ (num_le Hh4.out hlt2) | (rw [num_le Hh4.out hlt2]; done) | ((first | rfl | exact leUT (numAt x4 r2) x5 | exact congrArg _ (leUT (numAt x4 r2) x5) | (rw [leUT (numAt x4 r2) x5]; done) | (rw [leUT (numAt x4 r2) x5]; rfl)); rw [num_le Hh4.out hlt2]) | exact congrArg tn (eq_of_beq (num_le Hh4.out hlt2)) | exact congrArg ti (eq_of_beq (num_le Hh4.out hlt2)) | exact congrArg tn (eq_of_bne (num_le Hh4.out hlt2)) | exact of_decide_eq_true (num_le Hh4.out hlt2) | exact Int.not_le.1 (of_decide_eq_false (num_le Hh4.out hlt2)) | exact Int.not_lt.1 (of_decide_eq_false (num_le Hh4.out hlt2)) | simpa using (num_le Hh4.out hlt2)))) ?_
     simp only [sA, sB]
     clear HS
     refine ld fun W8 HS => ?_
     go_upto_region 11 with fail
     refine lnb HS.out rfl ?_
     refine lm 0 0 rfl rfl rfl rfl ?_
     simp only [sA, sB]
     refine lm 1 1 rfl rfl rfl rfl ?_
     simp only [sA, sB]
     refine lm 2 17 rfl rfl rfl rfl ?_
     simp only [sA, sB]
     refine lm 3 18 rfl rfl rfl rfl ?_
     simp only [sA, sB]
     refine lc 4 11 #[.int .i64 (ti (x0)), .bool (x1), .int .u64 (tn (numAt x2 r1)), .int .u64 (tn (numAt x4 r2))] (.tuple #[.int .u64 (tn (aluR x0 x1 (numAt x2 r1) (numAt x4 r2))), .bool (aluIs (ti x0))]) rfl rfl (by intro x hx; exact wAlu_any x0 x1 (numAt x2 r1) (numAt x4 r2) _) ?_
     simp only [sA, sB]
     refine lm 5 63 rfl rfl rfl rfl ?_
     simp only [sA, sB]
     refine lv 6 (.int .u64 (tn (aluR x0 x1 (numAt x2 r1) (numAt x4 r2)))) rfl rfl (by intro x hx; go_simp; all_goals exact rfl) ?_
     simp only [sA, sB]
     refine lv 7 (.bool (aluIs (ti x0))) rfl rfl (by intro x hx; go_simp; all_goals exact rfl) ?_
     simp only [sA, sB]
     refine la 8 64 rfl rfl rfl rfl ?_
     simp only [sA, sB]
     refine la 9 65 rfl rfl rfl rfl ?_
     simp only [sA, sB]
     clear HS
     refine ld fun W9 HS => ?_
     go_upto_region 12 with fail
     refine lnb HS.out rfl ?_
     refine lm 0 20 rfl rfl rfl rfl ?_
     simp only [sA, sB]
     refine lm 1 66 rfl rfl rfl rfl ?_
     simp only [sA, sB]
     refine lin_if (i := 2) (v := vS (scalar_Alu x0 x1 (btw x2 x3) (btw x4 x5))) (aluIs (ti x0)) rfl rfl (by generalize (aluIs (ti x0)) = gg0; cases gg0 <;> rfl) (by intro hb; have hb97 := hid (show (aluIs (ti x0)) = true from hb); intro x hx; (try simp only [hb]); (try simp only [cond_true]); obtain ⟨f0, f1, f2, f3, f4, f5⟩ := hx.six 2 0 rfl rfl; go_simp; all_goals exact rfl) ?_
     simp only [sA, sB, vS]
     refine lin_if (i := 3) (v := .int .u64 (tn (aluR x0 x1 (numAt x2 r1) (numAt x4 r2)))) (aluIs (ti x0)) rfl rfl (by generalize (aluIs (ti x0)) = gg0; cases gg0 <;> rfl) (by intro hb; have hb98 := hid (show (aluIs (ti x0)) = true from hb); intro x hx; (try simp only [hb]); (try simp only [cond_true]); go_simp; all_goals exact rfl) ?_
     simp only [sA, sB]
     refine lin_if_call (i := 4) (f := 12) (args := #[vS (scalar_Alu x0 x1 (btw x2 x3) (btw x4 x5)), .int .u64 (tn (aluR x0 x1 (numAt x2 r1) (numAt x4 r2)))]) (v := .bool true) (aluIs (ti x0)) (st_ups _ _) rfl rfl (by generalize (aluIs (ti x0)) = gg0; cases gg0 <;> rfl) (by intro hb; have hb99 := hid (show (aluIs (ti x0)) = true from hb); intro x hx; (try simp only [hb]); (try simp only [cond_true]); kernel_rfl) (by intro hb; have hb99 := hid (show (aluIs (ti x0)) = true from hb); intro x hx; exact calls_is (scalar_In_any (scalar_Alu x0 x1 (btw x2 x3) (btw x4 x5)) (aluR x0 x1 (numAt x2 r1) (numAt x4 r2)) _) (congrArg Value.bool (alu_in _ _ hb99.out HW.out.1 HV.out.2 HW.out.2))) ?_
     simp only [sA, sB]
     refine lin_if (i := 5) (v := .bool false) (aluIs (ti x0)) rfl rfl (by generalize (aluIs (ti x0)) = gg0; cases gg0 <;> rfl) (by intro hb; have hb100 := hid (show (aluIs (ti x0)) = true from hb); intro x hx; (try simp only [hb]); (try simp only [cond_true]); go_simp; all_goals exact rfl) ?_
     simp only [sA, sB]
     refine lv 6 (.bool false) rfl rfl (by intro x hx; (cases hq : (aluIs (ti x0)) <;> first | rfl | (simp only [hq]; rfl) | simp [hq])) ?_
     simp only [sA, sB]
     clear HS
     refine ld fun W10 HS => ?_
     go_upto_region 14 with fail
     refine lnb HS.out rfl ?_
     refine lm 0 0 rfl rfl rfl rfl ?_
     simp only [sA, sB]
     refine lm 1 1 rfl rfl rfl rfl ?_
     simp only [sA, sB]
     refine lm 2 17 rfl rfl rfl rfl ?_
     simp only [sA, sB]
     refine lm 3 18 rfl rfl rfl rfl ?_
     simp only [sA, sB]
     refine lc 4 13 #[.int .i64 (ti (x0)), .bool (x1), .int .u64 (tn (numAt x2 r1)), .int .u64 (tn (numAt x4 r2))] (.tuple #[.bool (jmpR x0 x1 (numAt x2 r1) (numAt x4 r2)), .bool (jmpIs (ti x0))]) rfl rfl (by intro x hx; exact wJump_any x0 x1 (numAt x2 r1) (numAt x4 r2) _) ?_
     simp only [sA, sB]
     refine lm 5 78 rfl rfl rfl rfl ?_
     simp only [sA, sB]
     refine lv 6 (.bool (jmpR x0 x1 (numAt x2 r1) (numAt x4 r2))) rfl rfl (by intro x hx; go_simp; all_goals exact rfl) ?_
     simp only [sA, sB]
     refine lv 7 (.bool (jmpIs (ti x0))) rfl rfl (by intro x hx; go_simp; all_goals exact rfl) ?_
     simp only [sA, sB]
     refine la 8 79 rfl rfl rfl rfl ?_
     simp only [sA, sB]
     refine la 9 80 rfl rfl rfl rfl ?_
     simp only [sA, sB]
     clear HS
     refine ld fun W11 HS => ?_
     go_upto_region 15 with fail
     refine lnb HS.out rfl ?_
     refine lv 0 (.int .i64 0) rfl rfl (by intro x hx; go_simp; all_goals exact rfl) ?_
     simp only [sA, sB]
     clear HS
     refine ld fun W12 HS => ?_
     go_wp2
     refine wp_loop_rounds 70 ?_
     rw [rounds_succ]
     go_upto_region 16 with fail
     refine lnb HS.out rfl ?_
     refine lm 0 23 rfl rfl rfl rfl ?_
     simp only [sA, sB]
     refine lv 1 (.bool true) rfl rfl (by intro x hx; go_simp; all_goals exact rfl) ?_
     simp only [sA, sB]
     clear HS
     refine ld fun W13 HS => ?_
     go_upto_region 18 with fail
     refine lnb HS.out rfl ?_
     refine lm 0 0 rfl rfl rfl rfl ?_
     simp only [sA, sB]
     refine lm 1 1 rfl rfl rfl rfl ?_
     simp only [sA, sB]
     refine lv 2 (vS (btw x2 x3)) rfl rfl (by intro x hx; obtain ⟨f0, f1, f2, f3, f4, f5⟩ := hx.six 0 0 rfl rfl; go_simp; all_goals exact rfl) ?_
     simp only [sA, sB, vS]
     refine lv 3 (vS (btw x4 x5)) rfl rfl (by intro x hx; obtain ⟨f0, f1, f2, f3, f4, f5⟩ := hx.six 1 0 rfl rfl; go_simp; all_goals exact rfl) ?_
     simp only [sA, sB, vS]
     refine lm 4 23 rfl rfl rfl rfl ?_
     simp only [sA, sB]
     refine lv 5 (.bool false) rfl rfl (by intro x hx; go_simp; all_goals exact rfl) ?_
     simp only [sA, sB]
     refine lc 6 5 #[.int .i64 (ti (x0)), .bool (x1), vS (btw x2 x3), vS (btw x4 x5), .bool false] (.tuple #[vS ((scalar_Branch x0 x1 (btw x2 x3) (btw x4 x5) false).1), vS ((scalar_Branch x0 x1 (btw x2 x3) (btw x4 x5) false).2.1), .bool ((scalar_Branch x0 x1 (btw x2 x3) (btw x4 x5) false).2.2)]) rfl rfl (by intro x hx; exact scalar_Branch_any x0 x1 (btw x2 x3) (btw x4 x5) false _) ?_
     simp only [sA, sB, vS]
     refine lm 7 92 rfl rfl rfl rfl ?_
     simp only [sA, sB]
     refine lv 8 (vS ((scalar_Branch x0 x1 (btw x2 x3) (btw x4 x5) false).1)) rfl rfl (by intro x hx; go_simp; all_goals exact rfl) ?_
     simp only [sA, sB, vS]
     refine lv 9 (vS ((scalar_Branch x0 x1 (btw x2 x3) (btw x4 x5) false).2.1)) rfl rfl (by intro x hx; go_simp; all_goals exact rfl) ?_
     simp only [sA, sB, vS]
     refine lv 10 (.bool ((scalar_Branch x0 x1 (btw x2 x3) (btw x4 x5) false).2.2)) rfl rfl (by intro x hx; go_simp; all_goals exact rfl) ?_
     simp only [sA, sB]
     refine lin_new (i := 11) rfl rfl (by rfl) [.int .u64 0, .int .u64 0, .int .u64 0, .int .u64 0, .int .i64 0, .int .i64 0] 31 (fun k => .pointer (some ⟨k, 0, none⟩)) [some (.int .u64 0), some (.int .u64 0), some (.int .u64 0), some (.int .u64 0), some (.int .i64 0), some (.int .i64 0)] (lessC_refl _) (by intro x hx; go_simp; all_goals exact rfl) (fun k5 => ?_)
     simp only [sA, sB, sC, sD]
     refine lin_new (i := 12) rfl rfl (by rfl) [.int .u64 0, .int .u64 0, .int .u64 0, .int .u64 0, .int .i64 0, .int .i64 0] 31 (fun k => .pointer (some ⟨k, 0, none⟩)) [some (.int .u64 0), some (.int .u64 0), some (.int .u64 0), some (.int .u64 0), some (.int .i64 0), some (.int .i64 0)] (lessC_refl _) (by intro x hx; go_simp; all_goals exact rfl) (fun k6 => ?_)
     simp only [sA, sB, sC, sD]
     refine ls 13 4 0 (cS ((scalar_Branch x0 x1 (btw x2 x3) (btw x4 x5) false).1)) rfl rfl rfl (by intro x hx; obtain ⟨⟨_, z0, q0⟩, ⟨_, z1, q1⟩, ⟨_, z2, q2⟩, ⟨_, z3, q3⟩, ⟨_, z4, q4⟩, ⟨_, z5, q5⟩⟩ := hx.at6 4 0 rfl; go_simp; all_goals rfl) ?_
     simp only [Blk.putC, setM, cS, sA, sB]
     refine ls 14 5 0 (cS ((scalar_Branch x0 x1 (btw x2 x3) (btw x4 x5) false).2.1)) rfl rfl rfl (by intro x hx; obtain ⟨⟨_, z0, q0⟩, ⟨_, z1, q1⟩, ⟨_, z2, q2⟩, ⟨_, z3, q3⟩, ⟨_, z4, q4⟩, ⟨_, z5, q5⟩⟩ := hx.at6 5 0 rfl; go_simp; all_goals rfl) ?_
     simp only [Blk.putC, setM, cS, sA, sB]
     refine la 15 95 rfl rfl rfl rfl ?_
     simp only [sA, sB]
     clear HS
     refine ld fun W14 HS => ?_
     go_upto_region 19 with fail
     refine lnb HS.out rfl ?_
     refine lm 0 22 rfl rfl rfl rfl ?_
     simp only [sA, sB]
     refine lm 1 96 rfl rfl rfl rfl ?_
     simp only [sA, sB]
     refine lin_if (i := 2) (v := .bool (jmpR x0 x1 (numAt x2 r1) (numAt x4 r2))) (jmpIs (ti x0)) rfl rfl (by generalize (jmpIs (ti x0)) = gg0; cases gg0 <;> rfl) (by intro hb; have hb101 := hid (show (jmpIs (ti x0)) = true from hb); intro x hx; (try simp only [hb]); (try simp only [cond_true]); go_simp; all_goals exact rfl) ?_
     simp only [sA, sB]
     refine lin_if (i := 3) (v := .int .i64 0) (jmpIs (ti x0)) rfl rfl (by generalize (jmpIs (ti x0)) = gg0; cases gg0 <;> rfl) (by intro hb; have hb102 := hid (show (jmpIs (ti x0)) = true from hb); intro x hx; (try simp only [hb]); (try simp only [cond_true]); go_simp; all_goals exact rfl) ?_
     simp only [sA, sB]
     refine lin_if (i := 4) (v := .bool false) (jmpIs (ti x0)) rfl rfl (by generalize (jmpIs (ti x0)) = gg0; cases gg0 <;> rfl) (by intro hb; have hb103 := hid (show (jmpIs (ti x0)) = true from hb); intro x hx; (try simp only [hb]); (try simp only [cond_true]); go_simp; all_goals exact rfl) ?_
     simp only [sA, sB]
     refine lin_if (i := 5) (v := .bool (((jmpR x0 x1 (numAt x2 r1) (numAt x4 r2)) == false))) (jmpIs (ti x0)) rfl rfl (by generalize (jmpIs (ti x0)) = gg0; cases gg0 <;> rfl) (by intro hb; have hb104 := hid (show (jmpIs (ti x0)) = true from hb); intro x hx; (try simp only [hb]); (try simp only [cond_true]); go_simp; all_goals exact rfl) ?_
     simp only [sA, sB]
     refine lv 6 (.bool ((bif jmpIs (ti x0) then ((jmpR x0 x1 (numAt x2 r1) (numAt x4 r2)) == false) else false))) rfl rfl (by intro x hx; (cases hq : (jmpIs (ti x0)) <;> first | rfl | (simp only [hq]; rfl) | simp [hq])) ?_
     simp only [sA, sB]
     clear HS
     refine ld fun W15 HS => ?_
     cases h1 : ((bif jmpIs (ti x0) then ((jmpR x0 x1 (numAt x2 r1) (numAt x4 r2)) == false) else false))
     ·replace h1 := hid h1
      go_upto_region 17 with fail
      refine lnb HS.out rfl ?_
      refine lm 0 23 rfl rfl rfl rfl ?_
      simp only [sA, sB]
      refine lv 1 (.int .i64 1) rfl rfl (by intro x hx; go_simp; all_goals exact rfl) ?_
      simp only [sA, sB]
      refine la 2 84 rfl rfl rfl rfl ?_
      simp only [sA, sB]
      clear HS
      refine ld fun W16 HS => ?_
      go_wp2
      rw [rounds_succ]
      go_upto_region 16 with fail
      refine lnb HS.out rfl ?_
      refine lm 0 23 rfl rfl rfl rfl ?_
      simp only [sA, sB]
      refine lv 1 (.bool true) rfl rfl (by intro x hx; go_simp; all_goals exact rfl) ?_
      simp only [sA, sB]
      clear HS
      refine ld fun W17 HS => ?_
      go_upto_region 18 with fail
      refine lnb HS.out rfl ?_
      refine lm 0 0 rfl rfl rfl rfl ?_
      simp only [sA, sB]
      refine lm 1 1 rfl rfl rfl rfl ?_
      simp only [sA, sB]
      refine lv 2 (vS (btw x2 x3)) rfl rfl (by intro x hx; obtain ⟨f0, f1, f2, f3, f4, f5⟩ := hx.six 0 0 rfl rfl; go_simp; all_goals exact rfl) ?_
      simp only [sA, sB, vS]
      refine lv 3 (vS (btw x4 x5)) rfl rfl (by intro x hx; obtain ⟨f0, f1, f2, f3, f4, f5⟩ := hx.six 1 0 rfl rfl; go_simp; all_goals exact rfl) ?_
      simp only [sA, sB, vS]
      refine lm 4 23 rfl rfl rfl rfl ?_
      simp only [sA, sB]
      refine lv 5 (.bool true) rfl rfl (by intro x hx; go_simp; all_goals exact rfl) ?_
      simp only [sA, sB]
      refine lc 6 5 #[.int .i64 (ti (x0)), .bool (x1), vS (btw x2 x3), vS (btw x4 x5), .bool true] (.tuple #[vS ((scalar_Branch x0 x1 (btw x2 x3) (btw x4 x5) true).1), vS ((scalar_Branch x0 x1 (btw x2 x3) (btw x4 x5) true).2.1), .bool ((scalar_Branch x0 x1 (btw x2 x3) (btw x4 x5) true).2.2)]) rfl rfl (by intro x hx; exact scalar_Branch_any x0 x1 (btw x2 x3) (btw x4 x5) true _) ?_
      simp only [sA, sB, vS]
      refine lm 7 92 rfl rfl rfl rfl ?_
      simp only [sA, sB]
      refine lv 8 (vS ((scalar_Branch x0 x1 (btw x2 x3) (btw x4 x5) true).1)) rfl rfl (by intro x hx; go_simp; all_goals exact rfl) ?_
      simp only [sA, sB, vS]
      refine lv 9 (vS ((scalar_Branch x0 x1 (btw x2 x3) (btw x4 x5) true).2.1)) rfl rfl (by intro x hx; go_simp; all_goals exact rfl) ?_
      simp only [sA, sB, vS]
      refine lv 10 (.bool ((scalar_Branch x0 x1 (btw x2 x3) (btw x4 x5) true).2.2)) rfl rfl (by intro x hx; go_simp; all_goals exact rfl) ?_
      simp only [sA, sB]
      refine lin_new (i := 11) rfl rfl (by rfl) [.int .u64 0, .int .u64 0, .int .u64 0, .int .u64 0, .int .i64 0, .int .i64 0] 31 (fun k => .pointer (some ⟨k, 0, none⟩)) [some (.int .u64 0), some (.int .u64 0), some (.int .u64 0), some (.int .u64 0), some (.int .i64 0), some (.int .i64 0)] (lessC_refl _) (by intro x hx; go_simp; all_goals exact rfl) (fun k7 => ?_)
      simp only [sA, sB, sC, sD]
      refine lin_new (i := 12) rfl rfl (by rfl) [.int .u64 0, .int .u64 0, .int .u64 0, .int .u64 0, .int .i64 0, .int .i64 0] 31 (fun k => .pointer (some ⟨k, 0, none⟩)) [some (.int .u64 0), some (.int .u64 0), some (.int .u64 0), some (.int .u64 0), some (.int .i64 0), some (.int .i64 0)] (lessC_refl _) (by intro x hx; go_simp; all_goals exact rfl) (fun k8 => ?_)
      simp only [sA, sB, sC, sD]
      refine ls 13 6 0 (cS ((scalar_Branch x0 x1 (btw x2 x3) (btw x4 x5) true).1)) rfl rfl rfl (by intro x hx; obtain ⟨⟨_, z0, q0⟩, ⟨_, z1, q1⟩, ⟨_, z2, q2⟩, ⟨_, z3, q3⟩, ⟨_, z4, q4⟩, ⟨_, z5, q5⟩⟩ := hx.at6 6 0 rfl; go_simp; all_goals rfl) ?_
      simp only [Blk.putC, setM, cS, sA, sB]
      refine ls 14 7 0 (cS ((scalar_Branch x0 x1 (btw x2 x3) (btw x4 x5) true).2.1)) rfl rfl rfl (by intro x hx; obtain ⟨⟨_, z0, q0⟩, ⟨_, z1, q1⟩, ⟨_, z2, q2⟩, ⟨_, z3, q3⟩, ⟨_, z4, q4⟩, ⟨_, z5, q5⟩⟩ := hx.at6 7 0 rfl; go_simp; all_goals rfl) ?_
      simp only [Blk.putC, setM, cS, sA, sB]
      refine la 15 95 rfl rfl rfl rfl ?_
      simp only [sA, sB]
      clear HS
      refine ld fun W18 HS => ?_
      go_upto_region 19 with fail
      refine lnb HS.out rfl ?_
      refine lm 0 22 rfl rfl rfl rfl ?_
      simp only [sA, sB]
      refine lm 1 96 rfl rfl rfl rfl ?_
      simp only [sA, sB]
      refine lin_if (i := 2) (v := .bool (jmpR x0 x1 (numAt x2 r1) (numAt x4 r2))) (jmpIs (ti x0)) rfl rfl (by generalize (jmpIs (ti x0)) = gg0; cases gg0 <;> rfl) (by intro hb; have hb105 := hid (show (jmpIs (ti x0)) = true from hb); intro x hx; (try simp only [hb]); (try simp only [cond_true]); go_simp; all_goals exact rfl) ?_
      simp only [sA, sB]
      refine lin_if (i := 3) (v := .int .i64 1) (jmpIs (ti x0)) rfl rfl (by generalize (jmpIs (ti x0)) = gg0; cases gg0 <;> rfl) (by intro hb; have hb106 := hid (show (jmpIs (ti x0)) = true from hb); intro x hx; (try simp only [hb]); (try simp only [cond_true]); go_simp; all_goals exact rfl) ?_
      simp only [sA, sB]
      refine lin_if (i := 4) (v := .bool true) (jmpIs (ti x0)) rfl rfl (by generalize (jmpIs (ti x0)) = gg0; cases gg0 <;> rfl) (by intro hb; have hb107 := hid (show (jmpIs (ti x0)) = true from hb); intro x hx; (try simp only [hb]); (try simp only [cond_true]); go_simp; all_goals exact rfl) ?_
      simp only [sA, sB]
      refine lin_if (i := 5) (v := .bool (((jmpR x0 x1 (numAt x2 r1) (numAt x4 r2)) == true))) (jmpIs (ti x0)) rfl rfl (by generalize (jmpIs (ti x0)) = gg0; cases gg0 <;> rfl) (by intro hb; have hb108 := hid (show (jmpIs (ti x0)) = true from hb); intro x hx; (try simp only [hb]); (try simp only [cond_true]); go_simp; all_goals exact rfl) ?_
      simp only [sA, sB]
      refine lv 6 (.bool ((bif jmpIs (ti x0) then ((jmpR x0 x1 (numAt x2 r1) (numAt x4 r2)) == true) else false))) rfl rfl (by intro x hx; (cases hq : (jmpIs (ti x0)) <;> first | rfl | (simp only [hq]; rfl) | simp [hq])) ?_
      simp only [sA, sB]
      clear HS
      refine ld fun W19 HS => ?_
      cases h2 : ((bif jmpIs (ti x0) then ((jmpR x0 x1 (numAt x2 r1) (numAt x4 r2)) == true) else false))
      ·replace h2 := hid h2
       go_upto_region 17 with fail
       refine lnb HS.out rfl ?_
       refine lm 0 23 rfl rfl rfl rfl ?_
       simp only [sA, sB]
       refine lv 1 (.int .i64 2) rfl rfl (by intro x hx; go_simp; all_goals exact rfl) ?_
       simp only [sA, sB]
       refine la 2 84 rfl rfl rfl rfl ?_
       simp only [sA, sB]
       clear HS
       refine ld fun W20 HS => ?_
       go_wp2
       rw [rounds_succ]
       go_upto_region 16 with fail
       refine lnb HS.out rfl ?_
       refine lm 0 23 rfl rfl rfl rfl ?_
       simp only [sA, sB]
       refine lv 1 (.bool false) rfl rfl (by intro x hx; go_simp; all_goals exact rfl) ?_
       simp only [sA, sB]
       clear HS
       refine ld fun W21 HS => ?_
       go_upto_region 10 with fail
       refine lnb HS.out rfl ?_
       refine lm 0 18 rfl rfl rfl rfl ?_
       simp only [sA, sB]
       refine lv 1 (.int .u64 (tn ((numAt x4 r2) + 1#64))) rfl rfl (by intro x hx; go_simp; (first | done | exact addUT (numAt x4 r2) 1#64 | exact congrArg _ (addUT (numAt x4 r2) 1#64) | (rw [addUT (numAt x4 r2) 1#64]; done) | (rw [addUT (numAt x4 r2) 1#64]; rfl))) ?_
       simp only [sA, sB]
       refine la 2 57 rfl rfl rfl rfl ?_
       simp only [sA, sB]
       clear HS
       refine ld fun W22 HS => ?_
       go_wp2
       rw [num_next x4 r2]
       exact ⟨hlt2, hid ⟨_, _, _, _, _, _, _, _, _, _, _, _, _, _, _, _, _, _, _, _, _, _, _, _, _, _, _, _, _, _, _, _, _, _, _, _, _, _, _, _, _, _, _, _, _, _, _, _, _, _, _, _, _, _, _, _, _, _, _, _, _, _, _, _, _, _, _, _, _, _, _, _, _, _, _, rfl, (by rw [row_f (show cellJ x0 x1 x2 x4 false r1 r2 = false from h1.out), row_f (show cellJ x0 x1 x2 x4 true r1 r2 = false from h2.out)]; exact St.fewer (m := [_, _, _, _]) HS.out)⟩⟩
      ·replace h2 := hid h2
       go_upto_region 20 with fail
       refine lnb HS.out rfl ?_
       refine lm 0 23 rfl rfl rfl rfl ?_
       simp only [sA, sB]
       refine lv 1 (.pointer (some ⟨k4, 1, none⟩)) rfl rfl (by intro x hx; go_simp; all_goals exact rfl) ?_
       simp only [sA, sB]
       refine ls 2 3 1 [.bool true] rfl rfl rfl (by intro x hx; obtain ⟨_, z0, q0⟩ := hx.at1 3 1 rfl; go_simp; all_goals rfl) ?_
       simp only [Blk.putC, setM, sA, sB]
       clear HS
       refine ld fun W20 HS => ?_
       go_upto_region 21 with fail
       refine lnb HS.out rfl ?_
       refine lm 0 26 rfl rfl rfl rfl ?_
       simp only [sA, sB]
       refine lv 1 (.bool false) rfl rfl (by intro x hx; go_simp; (first | done | (first | exact not_t (branch_has (bif_l h2.out) HV.out.1 HW.out.1 HV.out.2 HW.out.2 (eq_of_beq (bif_r h2.out))).may | exact eq_of_beq (not_t (branch_has (bif_l h2.out) HV.out.1 HW.out.1 HV.out.2 HW.out.2 (eq_of_beq (bif_r h2.out))).may) | exact congrArg _ (not_t (branch_has (bif_l h2.out) HV.out.1 HW.out.1 HV.out.2 HW.out.2 (eq_of_beq (bif_r h2.out))).may) | (rw [not_t (branch_has (bif_l h2.out) HV.out.1 HW.out.1 HV.out.2 HW.out.2 (eq_of_beq (bif_r h2.out))).may]; done) | ((first | rfl | skip); rw [not_t (branch_has (bif_l h2.out) HV.out.1 HW.out.1 HV.out.2 HW.out.2 (eq_of_beq (bif_r h2.out))).may]) | exact congrArg tn (eq_of_beq (not_t (branch_has (bif_l h2.out) HV.out.1 HW.out.1 HV.out.2 HW.out.2 (eq_of_beq (bif_r h2.out))).may)) | exact congrArg ti (eq_of_beq (not_t (branch_has (bif_l h2.out) HV.out.1 HW.out.1 HV.out.2 HW.out.2 (eq_of_beq (bif_r h2.out))).may)) | exact congrArg tn (eq_of_bne (not_t (branch_has (bif_l h2.out) HV.out.1 HW.out.1 HV.out.2 HW.out.2 (eq_of_beq (bif_r h2.out))).may)) | simpa using (not_t (branch_has (bif_l h2.out) HV.out.1 HW.out.1 HV.out.2 HW.out.2 (eq_of_beq (bif_r h2.out))).may)))) ?_
       simp only [sA, sB]
       refine lm 2 106 rfl rfl rfl rfl ?_
       simp only [sA, sB]
       refine lv 3 (vS ((scalar_Branch x0 x1 (btw x2 x3) (btw x4 x5) true).1)) rfl rfl (by intro x hx; obtain ⟨f0, f1, f2, f3, f4, f5⟩ := hx.six 6 0 rfl rfl; go_simp; all_goals exact rfl) ?_
       simp only [sA, sB, vS]
       refine lv 4 (.int .u64 (tn (numAt x2 r1))) rfl rfl (by intro x hx; go_simp; all_goals exact rfl) ?_
       simp only [sA, sB]
       refine lc 5 12 #[vS ((scalar_Branch x0 x1 (btw x2 x3) (btw x4 x5) true).1), .int .u64 (tn (numAt x2 r1))] (.bool true) rfl rfl (by intro x hx; exact calls_is (scalar_In_any ((scalar_Branch x0 x1 (btw x2 x3) (btw x4 x5) true).1) (numAt x2 r1) _) (congrArg Value.bool ((branch_has (bif_l h2.out) HV.out.1 HW.out.1 HV.out.2 HW.out.2 (eq_of_beq (bif_r h2.out))).fst))) ?_
       simp only [sA, sB]
       refine lv 6 (.bool false) rfl rfl (by intro x hx; go_simp; all_goals exact rfl) ?_
       simp only [sA, sB]
       refine lv 7 (.bool false) rfl rfl (by intro x hx; go_simp; all_goals exact rfl) ?_
       simp only [sA, sB]
       refine lm 8 112 rfl rfl rfl rfl ?_
       simp only [sA, sB]
       refine lv 9 (vS ((scalar_Branch x0 x1 (btw x2 x3) (btw x4 x5) true).2.1)) rfl rfl (by intro x hx; obtain ⟨f0, f1, f2, f3, f4, f5⟩ := hx.six 7 0 rfl rfl; go_simp; all_goals exact rfl) ?_
       simp only [sA, sB, vS]
       refine lv 10 (.int .u64 (tn (numAt x4 r2))) rfl rfl (by intro x hx; go_simp; all_goals exact rfl) ?_
       simp only [sA, sB]
       refine lc 11 12 #[vS ((scalar_Branch x0 x1 (btw x2 x3) (btw x4 x5) true).2.1), .int .u64 (tn (numAt x4 r2))] (.bool true) rfl rfl (by intro x hx; exact calls_is (scalar_In_any ((scalar_Branch x0 x1 (btw x2 x3) (btw x4 x5) true).2.1) (numAt x4 r2) _) (congrArg Value.bool ((branch_has (bif_l h2.out) HV.out.1 HW.out.1 HV.out.2 HW.out.2 (eq_of_beq (bif_r h2.out))).snd))) ?_
       simp only [sA, sB]
       refine lv 12 (.bool false) rfl rfl (by intro x hx; go_simp; all_goals exact rfl) ?_
       simp only [sA, sB]
       refine lv 13 (.bool false) rfl rfl (by intro x hx; go_simp; all_goals exact rfl) ?_
       simp only [sA, sB]
       clear HS
       refine ld fun W21 HS => ?_
       go_upto_region 17 with fail
       refine lnb HS.out rfl ?_
       refine lm 0 23 rfl rfl rfl rfl ?_
       simp only [sA, sB]
       refine lv 1 (.int .i64 2) rfl rfl (by intro x hx; go_simp; all_goals exact rfl) ?_
       simp only [sA, sB]
       refine la 2 84 rfl rfl rfl rfl ?_
       simp only [sA, sB]
       clear HS
       refine ld fun W22 HS => ?_
       go_wp2
       rw [rounds_succ]
       go_upto_region 16 with fail
       refine lnb HS.out rfl ?_
       refine lm 0 23 rfl rfl rfl rfl ?_
       simp only [sA, sB]
       refine lv 1 (.bool false) rfl rfl (by intro x hx; go_simp; all_goals exact rfl) ?_
       simp only [sA, sB]
       clear HS
       refine ld fun W23 HS => ?_
       go_upto_region 10 with fail
       refine lnb HS.out rfl ?_
       refine lm 0 18 rfl rfl rfl rfl ?_
       simp only [sA, sB]
       refine lv 1 (.int .u64 (tn ((numAt x4 r2) + 1#64))) rfl rfl (by intro x hx; go_simp; (first | done | exact addUT (numAt x4 r2) 1#64 | exact congrArg _ (addUT (numAt x4 r2) 1#64) | (rw [addUT (numAt x4 r2) 1#64]; done) | (rw [addUT (numAt x4 r2) 1#64]; rfl))) ?_
       simp only [sA, sB]
       refine la 2 57 rfl rfl rfl rfl ?_
       simp only [sA, sB]
       clear HS
       refine ld fun W24 HS => ?_
       go_wp2
       rw [num_next x4 r2]
       exact ⟨hlt2, hid ⟨_, _, _, _, _, _, _, _, _, _, _, _, _, _, _, _, _, _, _, _, _, _, _, _, _, _, _, _, _, _, _, _, _, _, _, _, _, _, _, _, _, _, _, _, _, _, _, _, _, _, _, _, _, _, _, _, _, _, _, _, _, _, _, _, _, _, _, _, _, _, _, _, _, _, _, rfl, (by rw [row_f (show cellJ x0 x1 x2 x4 false r1 r2 = false from h1.out), row_t (show cellJ x0 x1 x2 x4 true r1 r2 = true from h2.out)]; exact St.fewer (m := [_, _, _, _]) HS.out)⟩⟩
     ·replace h1 := hid h1
      go_upto_region 20 with fail
      refine lnb HS.out rfl ?_
      refine lm 0 23 rfl rfl rfl rfl ?_
      simp only [sA, sB]
      refine lv 1 (.pointer (some ⟨k4, 0, none⟩)) rfl rfl (by intro x hx; go_simp; all_goals exact rfl) ?_
      simp only [sA, sB]
      refine ls 2 3 0 [.bool true] rfl rfl rfl (by intro x hx; obtain ⟨_, z0, q0⟩ := hx.at1 3 0 rfl; go_simp; all_goals rfl) ?_
      simp only [Blk.putC, setM, sA, sB]
      clear HS
      refine ld fun W16 HS => ?_
      go_upto_region 21 with fail
      refine lnb HS.out rfl ?_
      refine lm 0 26 rfl rfl rfl rfl ?_
      simp only [sA, sB]
      refine lv 1 (.bool false) rfl rfl (by intro x hx; go_simp; (first | done | (first | exact not_t (branch_has (bif_l h1.out) HV.out.1 HW.out.1 HV.out.2 HW.out.2 (eq_of_beq (bif_r h1.out))).may | exact eq_of_beq (not_t (branch_has (bif_l h1.out) HV.out.1 HW.out.1 HV.out.2 HW.out.2 (eq_of_beq (bif_r h1.out))).may) | exact congrArg _ (not_t (branch_has (bif_l h1.out) HV.out.1 HW.out.1 HV.out.2 HW.out.2 (eq_of_beq (bif_r h1.out))).may) | (rw [not_t (branch_has (bif_l h1.out) HV.out.1 HW.out.1 HV.out.2 HW.out.2 (eq_of_beq (bif_r h1.out))).may]; done) | ((first | rfl | skip); rw [not_t (branch_has (bif_l h1.out) HV.out.1 HW.out.1 HV.out.2 HW.out.2 (eq_of_beq (bif_r h1.out))).may]) | exact congrArg tn (eq_of_beq (not_t (branch_has (bif_l h1.out) HV.out.1 HW.out.1 HV.out.2 HW.out.2 (eq_of_beq (bif_r h1.out))).may)) | exact congrArg ti (eq_of_beq (not_t (branch_has (bif_l h1.out) HV.out.1 HW.out.1 HV.out.2 HW.out.2 (eq_of_beq (bif_r h1.out))).may)) | exact congrArg tn (eq_of_bne (not_t (branch_has (bif_l h1.out) HV.out.1 HW.out.1 HV.out.2 HW.out.2 (eq_of_beq (bif_r h1.out))).may)) | simpa using (not_t (branch_has (bif_l h1.out) HV.out.1 HW.out.1 HV.out.2 HW.out.2 (eq_of_beq (bif_r h1.out))).may)))) ?_
      simp only [sA, sB]
      refine lm 2 106 rfl rfl rfl rfl ?_
      simp only [sA, sB]
      refine lv 3 (vS ((scalar_Branch x0 x1 (btw x2 x3) (btw x4 x5) false).1)) rfl rfl (by intro x hx; obtain ⟨f0, f1, f2, f3, f4, f5⟩ := hx.six 4 0 rfl rfl; go_simp; all_goals exact rfl) ?_
      simp only [sA, sB, vS]
      refine lv 4 (.int .u64 (tn (numAt x2 r1))) rfl rfl (by intro x hx; go_simp; all_goals exact rfl) ?_
      simp only [sA, sB]
      refine lc 5 12 #[vS ((scalar_Branch x0 x1 (btw x2 x3) (btw x4 x5) false).1), .int .u64 (tn (numAt x2 r1))] (.bool true) rfl rfl (by intro x hx; exact calls_is (scalar_In_any ((scalar_Branch x0 x1 (btw x2 x3) (btw x4 x5) false).1) (numAt x2 r1) _) (congrArg Value.bool ((branch_has (bif_l h1.out) HV.out.1 HW.out.1 HV.out.2 HW.out.2 (eq_of_beq (bif_r h1.out))).fst))) ?_
      simp only [sA, sB]
      refine lv 6 (.bool false) rfl rfl (by intro x hx; go_simp; all_goals exact rfl) ?_
      simp only [sA, sB]
      refine lv 7 (.bool false) rfl rfl (by intro x hx; go_simp; all_goals exact rfl) ?_
      simp only [sA, sB]
      refine lm 8 112 rfl rfl rfl rfl ?_
      simp only [sA, sB]
      refine lv 9 (vS ((scalar_Branch x0 x1 (btw x2 x3) (btw x4 x5) false).2.1)) rfl rfl (by intro x hx; obtain ⟨f0, f1, f2, f3, f4, f5⟩ := hx.six 5 0 rfl rfl; go_simp; all_goals exact rfl) ?_
      simp only [sA, sB, vS]
      refine lv 10 (.int .u64 (tn (numAt x4 r2))) rfl rfl (by intro x hx; go_simp; all_goals exact rfl) ?_
      simp only [sA, sB]
      refine lc 11 12 #[vS ((scalar_Branch x0 x1 (btw x2 x3) (btw x4 x5) false).2.1), .int .u64 (tn (numAt x4 r2))] (.bool true) rfl rfl (by intro x hx; exact calls_is (scalar_In_any ((scalar_Branch x0 x1 (btw x2 x3) (btw x4 x5) false).2.1) (numAt x4 r2) _) (congrArg Value.bool ((branch_has (bif_l h1.out) HV.out.1 HW.out.1 HV.out.2 HW.out.2 (eq_of_beq (bif_r h1.out))).snd))) ?_
      simp only [sA, sB]
      refine lv 12 (.bool false) rfl rfl (by intro x hx; go_simp; all_goals exact rfl) ?_
      simp only [sA, sB]
      refine lv 13 (.bool false) rfl rfl (by intro x hx; go_simp; all_goals exact rfl) ?_
      simp only [sA, sB]
      clear HS
      refine ld fun W17 HS => ?_
      go_upto_region 17 with fail
      refine lnb HS.out rfl ?_
      refine lm 0 23 rfl rfl rfl rfl ?_
      simp only [sA, sB]
      refine lv 1 (.int .i64 1) rfl rfl (by intro x hx; go_simp; all_goals exact rfl) ?_
      simp only [sA, sB]
      refine la 2 84 rfl rfl rfl rfl ?_
      simp only [sA, sB]
      clear HS
      refine ld fun W18 HS => ?_
      go_wp2
      rw [rounds_succ]
      go_upto_region 16 with fail
      refine lnb HS.out rfl ?_
      refine lm 0 23 rfl rfl rfl rfl ?_
      simp only [sA, sB]
      refine lv 1 (.bool true) rfl rfl (by intro x hx; go_simp; all_goals exact rfl) ?_
      simp only [sA, sB]
      clear HS
      refine ld fun W19 HS => ?_
      go_upto_region 18 with fail
      refine lnb HS.out rfl ?_
      refine lm 0 0 rfl rfl rfl rfl ?_
      simp only [sA, sB]
      refine lm 1 1 rfl rfl rfl rfl ?_
      simp only [sA, sB]
      refine lv 2 (vS (btw x2 x3)) rfl rfl (by intro x hx; obtain ⟨f0, f1, f2, f3, f4, f5⟩ := hx.six 0 0 rfl rfl; go_simp; all_goals exact rfl) ?_
      simp only [sA, sB, vS]
      refine lv 3 (vS (btw x4 x5)) rfl rfl (by intro x hx; obtain ⟨f0, f1, f2, f3, f4, f5⟩ := hx.six 1 0 rfl rfl; go_simp; all_goals exact rfl) ?_
      simp only [sA, sB, vS]
      refine lm 4 23 rfl rfl rfl rfl ?_
      simp only [sA, sB]
      refine lv 5 (.bool true) rfl rfl (by intro x hx; go_simp; all_goals exact rfl) ?_
      simp only [sA, sB]
      refine lc 6 5 #[.int .i64 (ti (x0)), .bool (x1), vS (btw x2 x3), vS (btw x4 x5), .bool true] (.tuple #[vS ((scalar_Branch x0 x1 (btw x2 x3) (btw x4 x5) true).1), vS ((scalar_Branch x0 x1 (btw x2 x3) (btw x4 x5) true).2.1), .bool ((scalar_Branch x0 x1 (btw x2 x3) (btw x4 x5) true).2.2)]) rfl rfl (by intro x hx; exact scalar_Branch_any x0 x1 (btw x2 x3) (btw x4 x5) true _) ?_
      simp only [sA, sB, vS]
      refine lm 7 92 rfl rfl rfl rfl ?_
      simp only [sA, sB]
      refine lv 8 (vS ((scalar_Branch x0 x1 (btw x2 x3) (btw x4 x5) true).1)) rfl rfl (by intro x hx; go_simp; all_goals exact rfl) ?_
      simp only [sA, sB, vS]
      refine lv 9 (vS ((scalar_Branch x0 x1 (btw x2 x3) (btw x4 x5) true).2.1)) rfl rfl (by intro x hx; go_simp; all_goals exact rfl) ?_
      simp only [sA, sB, vS]
      refine lv 10 (.bool ((scalar_Branch x0 x1 (btw x2 x3) (btw x4 x5) true).2.2)) rfl rfl (by intro x hx; go_simp; all_goals exact rfl) ?_
      simp only [sA, sB]
      refine lin_new (i := 11) rfl rfl (by rfl) [.int .u64 0, .int .u64 0, .int .u64 0, .int .u64 0, .int .i64 0, .int .i64 0] 31 (fun k => .pointer (some ⟨k, 0, none⟩)) [some (.int .u64 0), some (.int .u64 0), some (.int .u64 0), some (.int .u64 0), some (.int .i64 0), some (.int .i64 0)] (lessC_refl _) (by intro x hx; go_simp; all_goals exact rfl) (fun k7 => ?_)
      simp only [sA, sB, sC, sD]
      refine lin_new (i := 12) rfl rfl (by rfl) [.int .u64 0, .int .u64 0, .int .u64 0, .int .u64 0, .int .i64 0, .int .i64 0] 31 (fun k => .pointer (some ⟨k, 0, none⟩)) [some (.int .u64 0), some (.int .u64 0), some (.int .u64 0), some (.int .u64 0), some (.int .i64 0), some (.int .i64 0)] (lessC_refl _) (by intro x hx; go_simp; all_goals exact rfl) (fun k8 => ?_)
      simp only [sA, sB, sC, sD]
      refine ls 13 6 0 (cS ((scalar_Branch x0 x1 (btw x2 x3) (btw x4 x5) true).1)) rfl rfl rfl (by intro x hx; obtain ⟨⟨_, z0, q0⟩, ⟨_, z1, q1⟩, ⟨_, z2, q2⟩, ⟨_, z3, q3⟩, ⟨_, z4, q4⟩, ⟨_, z5, q5⟩⟩ := hx.at6 6 0 rfl; go_simp; all_goals rfl) ?_
      simp only [Blk.putC, setM, cS, sA, sB]
      refine ls 14 7 0 (cS ((scalar_Branch x0 x1 (btw x2 x3) (btw x4 x5) true).2.1)) rfl rfl rfl (by intro x hx; obtain ⟨⟨_, z0, q0⟩, ⟨_, z1, q1⟩, ⟨_, z2, q2⟩, ⟨_, z3, q3⟩, ⟨_, z4, q4⟩, ⟨_, z5, q5⟩⟩ := hx.at6 7 0 rfl; go_simp; all_goals rfl) ?_
      simp only [Blk.putC, setM, cS, sA, sB]
      refine la 15 95 rfl rfl rfl rfl ?_
      simp only [sA, sB]
      clear HS
      refine ld fun W20 HS => ?_
      go_upto_region 19 with fail
      refine lnb HS.out rfl ?_
      refine lm 0 22 rfl rfl rfl rfl ?_
      simp only [sA, sB]
      refine lm 1 96 rfl rfl rfl rfl ?_
      simp only [sA, sB]
      refine lin_if (i := 2) (v := .bool (jmpR x0 x1 (numAt x2 r1) (numAt x4 r2))) (jmpIs (ti x0)) rfl rfl (by generalize (jmpIs (ti x0)) = gg0; cases gg0 <;> rfl) (by intro hb; have hb109 := hid (show (jmpIs (ti x0)) = true from hb); intro x hx; (try simp only [hb]); (try simp only [cond_true]); go_simp; all_goals exact rfl) ?_
      simp only [sA, sB]
      refine lin_if (i := 3) (v := .int .i64 1) (jmpIs (ti x0)) rfl rfl (by generalize (jmpIs (ti x0)) = gg0; cases gg0 <;> rfl) (by intro hb; have hb110 := hid (show (jmpIs (ti x0)) = true from hb); intro x hx; (try simp only [hb]); (try simp only [cond_true]); go_simp; all_goals exact rfl) ?_
      simp only [sA, sB]
      refine lin_if (i := 4) (v := .bool true) (jmpIs (ti x0)) rfl rfl (by generalize (jmpIs (ti x0)) = gg0; cases gg0 <;> rfl) (by intro hb; have hb111 := hid (show (jmpIs (ti x0)) = true from hb); intro x hx; (try simp only [hb]); (try simp only [cond_true]); go_simp; all_goals exact rfl) ?_
      simp only [sA, sB]
      refine lin_if (i := 5) (v := .bool (((jmpR x0 x1 (numAt x2 r1) (numAt x4 r2)) == true))) (jmpIs (ti x0)) rfl rfl (by generalize (jmpIs (ti x0)) = gg0; cases gg0 <;> rfl) (by intro hb; have hb112 := hid (show (jmpIs (ti x0)) = true from hb); intro x hx; (try simp only [hb]); (try simp only [cond_true]); go_simp; all_goals exact rfl) ?_
      simp only [sA, sB]
      refine lv 6 (.bool ((bif jmpIs (ti x0) then ((jmpR x0 x1 (numAt x2 r1) (numAt x4 r2)) == true) else false))) rfl rfl (by intro x hx; (cases hq : (jmpIs (ti x0)) <;> first | rfl | (simp only [hq]; rfl) | simp [hq])) ?_
      simp only [sA, sB]
      clear HS
      refine ld fun W21 HS => ?_
      cases h2 : ((bif jmpIs (ti x0) then ((jmpR x0 x1 (numAt x2 r1) (numAt x4 r2)) == true) else false))
      ·replace h2 := hid h2
       go_upto_region 17 with fail
       refine lnb HS.out rfl ?_
       refine lm 0 23 rfl rfl rfl rfl ?_
       simp only [sA, sB]
       refine lv 1 (.int .i64 2) rfl rfl (by intro x hx; go_simp; all_goals exact rfl) ?_
       simp only [sA, sB]
       refine la 2 84 rfl rfl rfl rfl ?_
       simp only [sA, sB]
       clear HS
       refine ld fun W22 HS => ?_
       go_wp2
       rw [rounds_succ]
       go_upto_region 16 with fail
       refine lnb HS.out rfl ?_
       refine lm 0 23 rfl rfl rfl rfl ?_
       simp only [sA, sB]
       refine lv 1 (.bool false) rfl rfl (by intro x hx; go_simp; all_goals exact rfl) ?_
       simp only [sA, sB]
       clear HS
       refine ld fun W23 HS => ?_
       go_upto_region 10 with fail
       refine lnb HS.out rfl ?_
       refine lm 0 18 rfl rfl rfl rfl ?_
       simp only [sA, sB]
       refine lv 1 (.int .u64 (tn ((numAt x4 r2) + 1#64))) rfl rfl (by intro x hx; go_simp; (first | done | exact addUT (numAt x4 r2) 1#64 | exact congrArg _ (addUT (numAt x4 r2) 1#64) | (rw [addUT (numAt x4 r2) 1#64]; done) | (rw [addUT (numAt x4 r2) 1#64]; rfl))) ?_
       simp only [sA, sB]
       refine la 2 57 rfl rfl rfl rfl ?_
       simp only [sA, sB]
       clear HS
       refine ld fun W24 HS => ?_
       go_wp2
       rw [num_next x4 r2]
       exact ⟨hlt2, hid ⟨_, _, _, _, _, _, _, _, _, _, _, _, _, _, _, _, _, _, _, _, _, _, _, _, _, _, _, _, _, _, _, _, _, _, _, _, _, _, _, _, _, _, _, _, _, _, _, _, _, _, _, _, _, _, _, _, _, _, _, _, _, _, _, _, _, _, _, _, _, _, _, _, _, _, _, rfl, (by rw [row_t (show cellJ x0 x1 x2 x4 false r1 r2 = true from h1.out), row_f (show cellJ x0 x1 x2 x4 true r1 r2 = false from h2.out)]; exact St.fewer (m := [_, _, _, _]) HS.out)⟩⟩
      ·replace h2 := hid h2
       go_upto_region 20 with fail
       refine lnb HS.out rfl ?_
       refine lm 0 23 rfl rfl rfl rfl ?_
       simp only [sA, sB]
       refine lv 1 (.pointer (some ⟨k4, 1, none⟩)) rfl rfl (by intro x hx; go_simp; all_goals exact rfl) ?_
       simp only [sA, sB]
       refine ls 2 3 1 [.bool true] rfl rfl rfl (by intro x hx; obtain ⟨_, z0, q0⟩ := hx.at1 3 1 rfl; go_simp; all_goals rfl) ?_
       simp only [Blk.putC, setM, sA, sB]
       clear HS
       refine ld fun W22 HS => ?_
       go_upto_region 21 with fail
       refine lnb HS.out rfl ?_
       refine lm 0 26 rfl rfl rfl rfl ?_
       simp only [sA, sB]
       refine lv 1 (.bool false) rfl rfl (by intro x hx; go_simp; (first | done | (first | exact not_t (branch_has (bif_l h2.out) HV.out.1 HW.out.1 HV.out.2 HW.out.2 (eq_of_beq (bif_r h2.out))).may | exact eq_of_beq (not_t (branch_has (bif_l h2.out) HV.out.1 HW.out.1 HV.out.2 HW.out.2 (eq_of_beq (bif_r h2.out))).may) | exact congrArg _ (not_t (branch_has (bif_l h2.out) HV.out.1 HW.out.1 HV.out.2 HW.out.2 (eq_of_beq (bif_r h2.out))).may) | (rw [not_t (branch_has (bif_l h2.out) HV.out.1 HW.out.1 HV.out.2 HW.out.2 (eq_of_beq (bif_r h2.out))).may]; done) | ((first | rfl | skip); rw [not_t (branch_has (bif_l h2.out) HV.out.1 HW.out.1 HV.out.2 HW.out.2 (eq_of_beq (bif_r h2.out))).may]) | exact congrArg tn (eq_of_beq (not_t (branch_has (bif_l h2.out) HV.out.1 HW.out.1 HV.out.2 HW.out.2 (eq_of_beq (bif_r h2.out))).may)) | exact congrArg ti (eq_of_beq (not_t (branch_has (bif_l h2.out) HV.out.1 HW.out.1 HV.out.2 HW.out.2 (eq_of_beq (bif_r h2.out))).may)) | exact congrArg tn (eq_of_bne (not_t (branch_has (bif_l h2.out) HV.out.1 HW.out.1 HV.out.2 HW.out.2 (eq_of_beq (bif_r h2.out))).may)) | simpa using (not_t (branch_has (bif_l h2.out) HV.out.1 HW.out.1 HV.out.2 HW.out.2 (eq_of_beq (bif_r h2.out))).may)))) ?_
       simp only [sA, sB]
       refine lm 2 106 rfl rfl rfl rfl ?_
       simp only [sA, sB]
       refine lv 3 (vS ((scalar_Branch x0 x1 (btw x2 x3) (btw x4 x5) true).1)) rfl rfl (by intro x hx; obtain ⟨f0, f1, f2, f3, f4, f5⟩ := hx.six 6 0 rfl rfl; go_simp; all_goals exact rfl) ?_
       simp only [sA, sB, vS]
       refine lv 4 (.int .u64 (tn (numAt x2 r1))) rfl rfl (by intro x hx; go_simp; all_goals exact rfl) ?_
       simp only [sA, sB]
       refine lc 5 12 #[vS ((scalar_Branch x0 x1 (btw x2 x3) (btw x4 x5) true).1), .int .u64 (tn (numAt x2 r1))] (.bool true) rfl rfl (by intro x hx; exact calls_is (scalar_In_any ((scalar_Branch x0 x1 (btw x2 x3) (btw x4 x5) true).1) (numAt x2 r1) _) (congrArg Value.bool ((branch_has (bif_l h2.out) HV.out.1 HW.out.1 HV.out.2 HW.out.2 (eq_of_beq (bif_r h2.out))).fst))) ?_
       simp only [sA, sB]
       refine lv 6 (.bool false) rfl rfl (by intro x hx; go_simp; all_goals exact rfl) ?_
       simp only [sA, sB]
       refine lv 7 (.bool false) rfl rfl (by intro x hx; go_simp; all_goals exact rfl) ?_
       simp only [sA, sB]
       refine lm 8 112 rfl rfl rfl rfl ?_
       simp only [sA, sB]
       refine lv 9 (vS ((scalar_Branch x0 x1 (btw x2 x3) (btw x4 x5) true).2.1)) rfl rfl (by intro x hx; obtain ⟨f0, f1, f2, f3, f4, f5⟩ := hx.six 7 0 rfl rfl; go_simp; all_goals exact rfl) ?_
       simp only [sA, sB, vS]
       refine lv 10 (.int .u64 (tn (numAt x4 r2))) rfl rfl (by intro x hx; go_simp; all_goals exact rfl) ?_
       simp only [sA, sB]
       refine lc 11 12 #[vS ((scalar_Branch x0 x1 (btw x2 x3) (btw x4 x5) true).2.1), .int .u64 (tn (numAt x4 r2))] (.bool true) rfl rfl (by intro x hx; exact calls_is (scalar_In_any ((scalar_Branch x0 x1 (btw x2 x3) (btw x4 x5) true).2.1) (numAt x4 r2) _) (congrArg Value.bool ((branch_has (bif_l h2.out) HV.out.1 HW.out.1 HV.out.2 HW.out.2 (eq_of_beq (bif_r h2.out))).snd))) ?_
       simp only [sA, sB]
       refine lv 12 (.bool false) rfl rfl (by intro x hx; go_simp; all_goals exact rfl) ?_
       simp only [sA, sB]
       refine lv 13 (.bool false) rfl rfl (by intro x hx; go_simp; all_goals exact rfl) ?_
       simp only [sA, sB]
       clear HS
       refine ld fun W23 HS => ?_
       go_upto_region 17 with fail
       refine lnb HS.out rfl ?_
       refine lm 0 23 rfl rfl rfl rfl ?_
       simp only [sA, sB]
       refine lv 1 (.int .i64 2) rfl rfl (by intro x hx; go_simp; all_goals exact rfl) ?_
       simp only [sA, sB]
       refine la 2 84 rfl rfl rfl rfl ?_
       simp only [sA, sB]
       clear HS
       refine ld fun W24 HS => ?_
       go_wp2
       rw [rounds_succ]
       go_upto_region 16 with fail
       refine lnb HS.out rfl ?_
       refine lm 0 23 rfl rfl rfl rfl ?_
       simp only [sA, sB]
       refine lv 1 (.bool false) rfl rfl (by intro x hx; go_simp; all_goals exact rfl) ?_
       simp only [sA, sB]
       clear HS
       refine ld fun W25 HS => ?_
       go_upto_region 10 with fail
       refine lnb HS.out rfl ?_
       refine lm 0 18 rfl rfl rfl rfl ?_
       simp only [sA, sB]
       refine lv 1 (.int .u64 (tn ((numAt x4 r2) + 1#64))) rfl rfl (by intro x hx; go_simp; (first | done | exact addUT (numAt x4 r2) 1#64 | exact congrArg _ (addUT (numAt x4 r2) 1#64) | (rw [addUT (numAt x4 r2) 1#64]; done) | (rw [addUT (numAt x4 r2) 1#64]; rfl))) ?_
       simp only [sA, sB]
       refine la 2 57 rfl rfl rfl rfl ?_
       simp only [sA, sB]
       clear HS
       refine ld fun W26 HS => ?_
       go_wp2
       rw [num_next x4 r2]
       exact ⟨hlt2, hid ⟨_, _, _, _, _, _, _, _, _, _, _, _, _, _, _, _, _, _, _, _, _, _, _, _, _, _, _, _, _, _, _, _, _, _, _, _, _, _, _, _, _, _, _, _, _, _, _, _, _, _, _, _, _, _, _, _, _, _, _, _, _, _, _, _, _, _, _, _, _, _, _, _, _, _, _, rfl, (by rw [row_t (show cellJ x0 x1 x2 x4 false r1 r2 = true from h1.out), row_t (show cellJ x0 x1 x2 x4 true r1 r2 = true from h2.out)]; exact St.fewer (m := [_, _, _, _]) HS.out)⟩⟩
   · have hN2 := hid (show r2 = (cnt x4 x5) by omega)
     replace HS := hid (show St w [⟨k1, [some (.int .u64 (tn (((btw x2 x3).t).lo))), some (.int .u64 (tn (((btw x2 x3).t).hi))), some (.int .u64 (tn (((btw x2 x3).u).lo))), some (.int .u64 (tn (((btw x2 x3).u).hi))), some (.int .i64 (ti (((btw x2 x3).s).lo))), some (.int .i64 (ti (((btw x2 x3).s).hi)))], 31⟩, ⟨k2, [some (.int .u64 (tn (((btw x4 x5).t).lo))), some (.int .u64 (tn (((btw x4 x5).t).hi))), some (.int .u64 (tn (((btw x4 x5).u).lo))), some (.int .u64 (tn (((btw x4 x5).u).hi))), some (.int .i64 (ti (((btw x4 x5).s).lo))), some (.int .i64 (ti (((btw x4 x5).s).hi)))], 31⟩, ⟨k3, [some (.int .u64 (tn (((scalar_Alu x0 x1 (btw x2 x3) (btw x4 x5)).t).lo))), some (.int .u64 (tn (((scalar_Alu x0 x1 (btw x2 x3) (btw x4 x5)).t).hi))), some (.int .u64 (tn (((scalar_Alu x0 x1 (btw x2 x3) (btw x4 x5)).u).lo))), some (.int .u64 (tn (((scalar_Alu x0 x1 (btw x2 x3) (btw x4 x5)).u).hi))), some (.int .i64 (ti (((scalar_Alu x0 x1 (btw x2 x3) (btw x4 x5)).s).lo))), some (.int .i64 (ti (((scalar_Alu x0 x1 (btw x2 x3) (btw x4 x5)).s).hi)))], 31⟩, ⟨k4, [some (.bool ((canTo x0 x1 x2 x4 false (cnt x4 x5) (r1 + 1)))), some (.bool ((canTo x0 x1 x2 x4 true (cnt x4 x5) (r1 + 1))))], 39⟩] W from (by have h := HS.out; rw [hN2.out] at h; exact h))
     go_upto_region 9 with fail
     refine lnb HS.out rfl ?_
     refine lm 0 18 rfl rfl rfl rfl ?_
     simp only [sA, sB]
     refine lm 1 5 rfl rfl rfl rfl ?_
     simp only [sA, sB]
     refine lv 2 (.bool false) rfl rfl (by intro x hx; go_simp; (first | done | (first | exact num_end Hh3.out Hh4.out hN2.out | exact eq_of_beq (num_end Hh3.out Hh4.out hN2.out) | exact congrArg _ (num_end Hh3.out Hh4.out hN2.out) | (rw [num_end Hh3.out Hh4.out hN2.out]; done) | ((first | rfl | exact leUT (numAt x4 r2) x5 | exact congrArg _ (leUT (numAt x4 r2) x5) | (rw [leUT (numAt x4 r2) x5]; done) | (rw [leUT (numAt x4 r2) x5]; rfl)); rw [num_end Hh3.out Hh4.out hN2.out]) | exact congrArg tn (eq_of_beq (num_end Hh3.out Hh4.out hN2.out)) | exact congrArg ti (eq_of_beq (num_end Hh3.out Hh4.out hN2.out)) | exact congrArg tn (eq_of_bne (num_end Hh3.out Hh4.out hN2.out)) | exact of_decide_eq_true (num_end Hh3.out Hh4.out hN2.out) | exact Int.not_le.1 (of_decide_eq_false (num_end Hh3.out Hh4.out hN2.out)) | exact Int.not_lt.1 (of_decide_eq_false (num_end Hh3.out Hh4.out hN2.out)) | simpa using (num_end Hh3.out Hh4.out hN2.out)))) ?_
     simp only [sA, sB]
     clear HS
     refine ld fun W8 HS => ?_
     go_upto_region 7 with fail
     refine lnb HS.out rfl ?_
     refine lm 0 17 rfl rfl rfl rfl ?_
     simp only [sA, sB]
     refine lv 1 (.int .u64 (tn ((numAt x2 r1) + 1#64))) rfl rfl (by intro x hx; go_simp; (first | done | exact addUT (numAt x2 r1) 1#64 | exact congrArg _ (addUT (numAt x2 r1) 1#64) | (rw [addUT (numAt x2 r1) 1#64]; done) | (rw [addUT (numAt x2 r1) 1#64]; rfl))) ?_
     simp only [sA, sB]
     refine la 2 51 rfl rfl rfl rfl ?_
     simp only [sA, sB]
     clear HS
     refine ld fun W9 HS => ?_
     go_wp2
     rw [num_next x2 r1]
     exact ⟨hlt1, hid ⟨_, _, _, _, _, _, _, _, _, _, _, _, _, _, _, _, _, _, _, _, _, _, _, _, _, _, _, _, _, _, _, _, _, _, _, _, _, _, _, _, _, _, _, _, _, _, _, _, _, _, _, _, _, _, _, _, _, _, _, _, _, _, _, _, _, _, _, _, _, _, _, _, _, _, _, _, _, _, _, _, _, _, rfl, HS.out⟩⟩
 · have hN1 := hid (show r1 = (cnt x2 x3) by omega)
   replace HS := hid (show St w [⟨k1, [some (.int .u64 (tn (((btw x2 x3).t).lo))), some (.int .u64 (tn (((btw x2 x3).t).hi))), some (.int .u64 (tn (((btw x2 x3).u).lo))), some (.int .u64 (tn (((btw x2 x3).u).hi))), some (.int .i64 (ti (((btw x2 x3).s).lo))), some (.int .i64 (ti (((btw x2 x3).s).hi)))], 31⟩, ⟨k2, [some (.int .u64 (tn (((btw x4 x5).t).lo))), some (.int .u64 (tn (((btw x4 x5).t).hi))), some (.int .u64 (tn (((btw x4 x5).u).lo))), some (.int .u64 (tn (((btw x4 x5).u).hi))), some (.int .i64 (ti (((btw x4 x5).s).lo))), some (.int .i64 (ti (((btw x4 x5).s).hi)))], 31⟩, ⟨k3, [some (.int .u64 (tn (((scalar_Alu x0 x1 (btw x2 x3) (btw x4 x5)).t).lo))), some (.int .u64 (tn (((scalar_Alu x0 x1 (btw x2 x3) (btw x4 x5)).t).hi))), some (.int .u64 (tn (((scalar_Alu x0 x1 (btw x2 x3) (btw x4 x5)).u).lo))), some (.int .u64 (tn (((scalar_Alu x0 x1 (btw x2 x3) (btw x4 x5)).u).hi))), some (.int .i64 (ti (((scalar_Alu x0 x1 (btw x2 x3) (btw x4 x5)).s).lo))), some (.int .i64 (ti (((scalar_Alu x0 x1 (btw x2 x3) (btw x4 x5)).s).hi)))], 31⟩, ⟨k4, [some (.bool ((canTo x0 x1 x2 x4 false (cnt x4 x5) (cnt x2 x3)))), some (.bool ((canTo x0 x1 x2 x4 true (cnt x4 x5) (cnt x2 x3))))], 39⟩] W from (by have h := HS.out; rw [hN1.out] at h; exact h))
   go_upto_region 6 with fail
   refine lnb HS.out rfl ?_
   refine lm 0 17 rfl rfl rfl rfl ?_
   simp only [sA, sB]
   refine lm 1 3 rfl rfl rfl rfl ?_
   simp only [sA, sB]
   refine lv 2 (.bool false) rfl rfl (by intro x hx; go_simp; (first | done | (first | exact num_end Hh1.out Hh2.out hN1.out | exact eq_of_beq (num_end Hh1.out Hh2.out hN1.out) | exact congrArg _ (num_end Hh1.out Hh2.out hN1.out) | (rw [num_end Hh1.out Hh2.out hN1.out]; done) | ((first | rfl | exact leUT (numAt x2 r1) x3 | exact congrArg _ (leUT (numAt x2 r1) x3) | (rw [leUT (numAt x2 r1) x3]; done) | (rw [leUT (numAt x2 r1) x3]; rfl)); rw [num_end Hh1.out Hh2.out hN1.out]) | exact congrArg tn (eq_of_beq (num_end Hh1.out Hh2.out hN1.out)) | exact congrArg ti (eq_of_beq (num_end Hh1.out Hh2.out hN1.out)) | exact congrArg tn (eq_of_bne (num_end Hh1.out Hh2.out hN1.out)) | exact of_decide_eq_true (num_end Hh1.out Hh2.out hN1.out) | exact Int.not_le.1 (of_decide_eq_false (num_end Hh1.out Hh2.out hN1.out)) | exact Int.not_lt.1 (of_decide_eq_false (num_end Hh1.out Hh2.out hN1.out)) | simpa using (num_end Hh1.out Hh2.out hN1.out)))) ?_
   simp only [sA, sB]
   clear HS
   refine ld fun W6 HS => ?_
   go_upto_region 23 with fail
   refine lnb HS.out rfl ?_
   refine lm 0 0 rfl rfl rfl rfl ?_
   simp only [sA, sB]
   refine lm 1 1 rfl rfl rfl rfl ?_
   simp only [sA, sB]
   refine lc 2 13 #[.int .i64 (ti (x0)), .bool (x1), .int .u64 (tn (0#64)), .int .u64 (tn (0#64))] (.tuple #[.bool (jmpR x0 x1 0#64 0#64), .bool (jmpIs (ti x0))]) rfl rfl (by intro x hx; exact wJump_any x0 x1 0#64 0#64 _) ?_
   simp only [sA, sB]
   refine lm 3 122 rfl rfl rfl rfl ?_
   simp only [sA, sB]
   refine lv 4 (.bool (jmpR x0 x1 0#64 0#64)) rfl rfl (by intro x hx; go_simp; all_goals exact rfl) ?_
   simp only [sA, sB]
   refine lv 5 (.bool (jmpIs (ti x0))) rfl rfl (by intro x hx; go_simp; all_goals exact rfl) ?_
   simp only [sA, sB]
   refine la 6 123 rfl rfl rfl rfl ?_
   simp only [sA, sB]
   refine la 7 124 rfl rfl rfl rfl ?_
   simp only [sA, sB]
   clear HS
   refine ld fun W7 HS => ?_
   go_upto_region 24 with fail
   refine lnb HS.out rfl ?_
   refine lm 0 2 rfl rfl rfl rfl ?_
   simp only [sA, sB]
   refine lm 1 3 rfl rfl rfl rfl ?_
   simp only [sA, sB]
   refine lv 2 (.bool ((x2 == x3))) rfl rfl (by intro x hx; go_simp; (first | done | exact eqUT x2 x3 | exact congrArg _ (eqUT x2 x3) | (rw [eqUT x2 x3]; done) | (rw [eqUT x2 x3]; rfl))) ?_
   simp only [sA, sB]
   refine lm 3 127 rfl rfl rfl rfl ?_
   simp only [sA, sB]
   refine lin_if (i := 4) (v := .int .u64 (tn (x4))) (x2 == x3) rfl rfl (by generalize (x2 == x3) = gg0; cases gg0 <;> rfl) (by intro hb; have hb113 := hid (show ((x2 == x3)) = true from hb); intro x hx; (try simp only [hb]); (try simp only [cond_true]); go_simp; all_goals exact rfl) ?_
   simp only [sA, sB]
   refine lin_if (i := 5) (v := .int .u64 (tn (x5))) (x2 == x3) rfl rfl (by generalize (x2 == x3) = gg0; cases gg0 <;> rfl) (by intro hb; have hb114 := hid (show ((x2 == x3)) = true from hb); intro x hx; (try simp only [hb]); (try simp only [cond_true]); go_simp; all_goals exact rfl) ?_
   simp only [sA, sB]
   refine lin_if (i := 6) (v := .bool ((x4 == x5))) (x2 == x3) rfl rfl (by generalize (x2 == x3) = gg0; cases gg0 <;> rfl) (by intro hb; have hb115 := hid (show ((x2 == x3)) = true from hb); intro x hx; (try simp only [hb]); (try simp only [cond_true]); go_simp; (first | done | exact eqUT x4 x5 | exact congrArg _ (eqUT x4 x5) | (rw [eqUT x4 x5]; done) | (rw [eqUT x4 x5]; rfl))) ?_
   simp only [sA, sB]
   refine lv 7 (.bool ((bif (x2 == x3) then (x4 == x5) else false))) rfl rfl (by intro x hx; (cases hq : ((x2 == x3)) <;> first | rfl | (simp only [hq]; rfl) | simp [hq])) ?_
   simp only [sA, sB]
   refine lm 8 132 rfl rfl rfl rfl ?_
   simp only [sA, sB]
   refine lin_if (i := 9) (v := .int .i64 (ti (x0))) (!(bif (x2 == x3) then (x4 == x5) else false)) rfl rfl (by generalize (bif (x2 == x3) then (x4 == x5) else false) = gg0; cases gg0 <;> rfl) (by intro hb; have hb116 := hid (show ((bif (x2 == x3) then (x4 == x5) else false)) = false from nnb hb); intro x hx; (try simp only [hb]); (try simp only [cond_true]); go_simp; all_goals exact rfl) ?_
   simp only [sA, sB]
   refine lin_if (i := 10) (v := .bool ((x0 == 32#64))) (!(bif (x2 == x3) then (x4 == x5) else false)) rfl rfl (by generalize (bif (x2 == x3) then (x4 == x5) else false) = gg0; cases gg0 <;> rfl) (by intro hb; have hb117 := hid (show ((bif (x2 == x3) then (x4 == x5) else false)) = false from nnb hb); intro x hx; (try simp only [hb]); (try simp only [cond_true]); go_simp; (first | done | exact eqIT x0 32#64 | exact congrArg _ (eqIT x0 32#64) | (rw [eqIT x0 32#64]; done) | (rw [eqIT x0 32#64]; rfl))) ?_
   simp only [sA, sB]
   refine lv 11 (.bool ((bif (bif (x2 == x3) then (x4 == x5) else false) then true else (x0 == 32#64)))) rfl rfl (by intro x hx; (cases hq : ((bif (x2 == x3) then (x4 == x5) else false)) <;> first | rfl | (simp only [hq]; rfl) | simp [hq])) ?_
   simp only [sA, sB]
   refine lm 12 136 rfl rfl rfl rfl ?_
   simp only [sA, sB]
   refine lin_if (i := 13) (v := .int .i64 (ti (x0))) (!(bif (bif (x2 == x3) then (x4 == x5) else false) then true else (x0 == 32#64))) rfl rfl (by generalize (bif (bif (x2 == x3) then (x4 == x5) else false) then true else (x0 == 32#64)) = gg0; cases gg0 <;> rfl) (by intro hb; have hb118 := hid (show ((bif (bif (x2 == x3) then (x4 == x5) else false) then true else (x0 == 32#64))) = false from nnb hb); intro x hx; (try simp only [hb]); (try simp only [cond_true]); go_simp; all_goals exact rfl) ?_
   simp only [sA, sB]
   refine lin_if (i := 14) (v := .bool ((x0 == 48#64))) (!(bif (bif (x2 == x3) then (x4 == x5) else false) then true else (x0 == 32#64))) rfl rfl (by generalize (bif (bif (x2 == x3) then (x4 == x5) else false) then true else (x0 == 32#64)) = gg0; cases gg0 <;> rfl) (by intro hb; have hb119 := hid (show ((bif (bif (x2 == x3) then (x4 == x5) else false) then true else (x0 == 32#64))) = false from nnb hb); intro x hx; (try simp only [hb]); (try simp only [cond_true]); go_simp; (first | done | exact eqIT x0 48#64 | exact congrArg _ (eqIT x0 48#64) | (rw [eqIT x0 48#64]; done) | (rw [eqIT x0 48#64]; rfl))) ?_
   simp only [sA, sB]
   refine lv 15 (.bool ((bif (bif (bif (x2 == x3) then (x4 == x5) else false) then true else (x0 == 32#64)) then true else (x0 == 48#64)))) rfl rfl (by intro x hx; (cases hq : ((bif (bif (x2 == x3) then (x4 == x5) else false) then true else (x0 == 32#64))) <;> first | rfl | (simp only [hq]; rfl) | simp [hq])) ?_
   simp only [sA, sB]
   refine lm 16 140 rfl rfl rfl rfl ?_
   simp only [sA, sB]
   refine lin_if (i := 17) (v := .int .i64 (ti (x0))) (!(bif (bif (bif (x2 == x3) then (x4 == x5) else false) then true else (x0 == 32#64)) then true else (x0 == 48#64))) rfl rfl (by generalize (bif (bif (bif (x2 == x3) then (x4 == x5) else false) then true else (x0 == 32#64)) then true else (x0 == 48#64)) = gg0; cases gg0 <;> rfl) (by intro hb; have hb120 := hid (show ((bif (bif (bif (x2 == x3) then (x4 == x5) else false) then true else (x0 == 32#64)) then true else (x0 == 48#64))) = false from nnb hb); intro x hx; (try simp only [hb]); (try simp only [cond_true]); go_simp; all_goals exact rfl) ?_
   simp only [sA, sB]
   refine lin_if (i := 18) (v := .bool ((x0 == 160#64))) (!(bif (bif (bif (x2 == x3) then (x4 == x5) else false) then true else (x0 == 32#64)) then true else (x0 == 48#64))) rfl rfl (by generalize (bif (bif (bif (x2 == x3) then (x4 == x5) else false) then true else (x0 == 32#64)) then true else (x0 == 48#64)) = gg0; cases gg0 <;> rfl) (by intro hb; have hb121 := hid (show ((bif (bif (bif (x2 == x3) then (x4 == x5) else false) then true else (x0 == 32#64)) then true else (x0 == 48#64))) = false from nnb hb); intro x hx; (try simp only [hb]); (try simp only [cond_true]); go_simp; (first | done | exact eqIT x0 160#64 | exact congrArg _ (eqIT x0 160#64) | (rw [eqIT x0 160#64]; done) | (rw [eqIT x0 160#64]; rfl))) ?_
   simp only [sA, sB]
   refine lv 19 (.bool ((bif (bif (bif (bif (x2 == x3) then (x4 == x5) else false) then true else (x0 == 32#64)) then true else (x0 == 48#64)) then true else (x0 == 160#64)))) rfl rfl (by intro x hx; (cases hq : ((bif (bif (bif (x2 == x3) then (x4 == x5) else false) then true else (x0 == 32#64)) then true else (x0 == 48#64))) <;> first | rfl | (simp only [hq]; rfl) | simp [hq])) ?_
   simp only [sA, sB]
   refine lm 20 144 rfl rfl rfl rfl ?_
   simp only [sA, sB]
   refine lin_if (i := 21) (v := .int .i64 (ti (x0))) (!(bif (bif (bif (bif (x2 == x3) then (x4 == x5) else false) then true else (x0 == 32#64)) then true else (x0 == 48#64)) then true else (x0 == 160#64))) rfl rfl (by generalize (bif (bif (bif (bif (x2 == x3) then (x4 == x5) else false) then true else (x0 == 32#64)) then true else (x0 == 48#64)) then true else (x0 == 160#64)) = gg0; cases gg0 <;> rfl) (by intro hb; have hb122 := hid (show ((bif (bif (bif (bif (x2 == x3) then (x4 == x5) else false) then true else (x0 == 32#64)) then true else (x0 == 48#64)) then true else (x0 == 160#64))) = false from nnb hb); intro x hx; (try simp only [hb]); (try simp only [cond_true]); go_simp; all_goals exact rfl) ?_
   simp only [sA, sB]
   refine lin_if (i := 22) (v := .bool ((x0 == 176#64))) (!(bif (bif (bif (bif (x2 == x3) then (x4 == x5) else false) then true else (x0 == 32#64)) then true else (x0 == 48#64)) then true else (x0 == 160#64))) rfl rfl (by generalize (bif (bif (bif (bif (x2 == x3) then (x4 == x5) else false) then true else (x0 == 32#64)) then true else (x0 == 48#64)) then true else (x0 == 160#64)) = gg0; cases gg0 <;> rfl) (by intro hb; have hb123 := hid (show ((bif (bif (bif (bif (x2 == x3) then (x4 == x5) else false) then true else (x0 == 32#64)) then true else (x0 == 48#64)) then true else (x0 == 160#64))) = false from nnb hb); intro x hx; (try simp only [hb]); (try simp only [cond_true]); go_simp; (first | done | exact eqIT x0 176#64 | exact congrArg _ (eqIT x0 176#64) | (rw [eqIT x0 176#64]; done) | (rw [eqIT x0 176#64]; rfl))) ?_
   simp only [sA, sB]
   refine lv 23 (.bool ((bif (bif (bif (bif (bif (x2 == x3) then (x4 == x5) else false) then true else (x0 == 32#64)) then true else (x0 == 48#64)) then true else (x0 == 160#64)) then true else (x0 == 176#64)))) rfl rfl (by intro x hx; (cases hq : ((bif (bif (bif (bif (x2 == x3) then (x4 == x5) else false) then true else (x0 == 32#64)) then true else (x0 == 48#64)) then true else (x0 == 160#64))) <;> first | rfl | (simp only [hq]; rfl) | simp [hq])) ?_
   simp only [sA, sB]
   refine la 24 148 rfl rfl rfl rfl ?_
   simp only [sA, sB]
   clear HS
   refine ld fun W8 HS => ?_
   go_upto_region 25 with fail
   refine lnb HS.out rfl ?_
   refine lv 0 (.int .i64 0) rfl rfl (by intro x hx; go_simp; all_goals exact rfl) ?_
   simp only [sA, sB]
   clear HS
   refine ld fun W9 HS => ?_
   go_wp2
   refine wp_loop_rounds 70 ?_
   rw [rounds_succ]
   go_upto_region 26 with fail
   refine lnb HS.out rfl ?_
   refine lm 0 30 rfl rfl rfl rfl ?_
   simp only [sA, sB]
   refine lv 1 (.bool true) rfl rfl (by intro x hx; go_simp; all_goals exact rfl) ?_
   simp only [sA, sB]
   clear HS
   refine ld fun W10 HS => ?_
   go_upto_region 28 with fail
   refine lnb HS.out rfl ?_
   refine lm 0 0 rfl rfl rfl rfl ?_
   simp only [sA, sB]
   refine lm 1 1 rfl rfl rfl rfl ?_
   simp only [sA, sB]
   refine lv 2 (vS (btw x2 x3)) rfl rfl (by intro x hx; obtain ⟨f0, f1, f2, f3, f4, f5⟩ := hx.six 0 0 rfl rfl; go_simp; all_goals exact rfl) ?_
   simp only [sA, sB, vS]
   refine lv 3 (vS (btw x4 x5)) rfl rfl (by intro x hx; obtain ⟨f0, f1, f2, f3, f4, f5⟩ := hx.six 1 0 rfl rfl; go_simp; all_goals exact rfl) ?_
   simp only [sA, sB, vS]
   refine lm 4 30 rfl rfl rfl rfl ?_
   simp only [sA, sB]
   refine lv 5 (.bool false) rfl rfl (by intro x hx; go_simp; all_goals exact rfl) ?_
   simp only [sA, sB]
   refine lc 6 5 #[.int .i64 (ti (x0)), .bool (x1), vS (btw x2 x3), vS (btw x4 x5), .bool false] (.tuple #[vS ((scalar_Branch x0 x1 (btw x2 x3) (btw x4 x5) false).1), vS ((scalar_Branch x0 x1 (btw x2 x3) (btw x4 x5) false).2.1), .bool ((scalar_Branch x0 x1 (btw x2 x3) (btw x4 x5) false).2.2)]) rfl rfl (by intro x hx; exact scalar_Branch_any x0 x1 (btw x2 x3) (btw x4 x5) false _) ?_
   simp only [sA, sB, vS]
   refine lm 7 160 rfl rfl rfl rfl ?_
   simp only [sA, sB]
   refine lv 8 (vS ((scalar_Branch x0 x1 (btw x2 x3) (btw x4 x5) false).1)) rfl rfl (by intro x hx; go_simp; all_goals exact rfl) ?_
   simp only [sA, sB, vS]
   refine lv 9 (vS ((scalar_Branch x0 x1 (btw x2 x3) (btw x4 x5) false).2.1)) rfl rfl (by intro x hx; go_simp; all_goals exact rfl) ?_
   simp only [sA, sB, vS]
   refine lv 10 (.bool ((scalar_Branch x0 x1 (btw x2 x3) (btw x4 x5) false).2.2)) rfl rfl (by intro x hx; go_simp; all_goals exact rfl) ?_
   simp only [sA, sB]
   refine lin_new (i := 11) rfl rfl (by rfl) [.int .u64 0, .int .u64 0, .int .u64 0, .int .u64 0, .int .i64 0, .int .i64 0] 31 (fun k => .pointer (some ⟨k, 0, none⟩)) [some (.int .u64 0), some (.int .u64 0), some (.int .u64 0), some (.int .u64 0), some (.int .i64 0), some (.int .i64 0)] (lessC_refl _) (by intro x hx; go_simp; all_goals exact rfl) (fun k5 => ?_)
   simp only [sA, sB, sC, sD]
   refine lin_new (i := 12) rfl rfl (by rfl) [.int .u64 0, .int .u64 0, .int .u64 0, .int .u64 0, .int .i64 0, .int .i64 0] 31 (fun k => .pointer (some ⟨k, 0, none⟩)) [some (.int .u64 0), some (.int .u64 0), some (.int .u64 0), some (.int .u64 0), some (.int .i64 0), some (.int .i64 0)] (lessC_refl _) (by intro x hx; go_simp; all_goals exact rfl) (fun k6 => ?_)
   simp only [sA, sB, sC, sD]
   refine ls 13 4 0 (cS ((scalar_Branch x0 x1 (btw x2 x3) (btw x4 x5) false).1)) rfl rfl rfl (by intro x hx; obtain ⟨⟨_, z0, q0⟩, ⟨_, z1, q1⟩, ⟨_, z2, q2⟩, ⟨_, z3, q3⟩, ⟨_, z4, q4⟩, ⟨_, z5, q5⟩⟩ := hx.at6 4 0 rfl; go_simp; all_goals rfl) ?_
   simp only [Blk.putC, setM, cS, sA, sB]
   refine ls 14 5 0 (cS ((scalar_Branch x0 x1 (btw x2 x3) (btw x4 x5) false).2.1)) rfl rfl rfl (by intro x hx; obtain ⟨⟨_, z0, q0⟩, ⟨_, z1, q1⟩, ⟨_, z2, q2⟩, ⟨_, z3, q3⟩, ⟨_, z4, q4⟩, ⟨_, z5, q5⟩⟩ := hx.at6 5 0 rfl; go_simp; all_goals rfl) ?_
   simp only [Blk.putC, setM, cS, sA, sB]
   refine la 15 163 rfl rfl rfl rfl ?_
   simp only [sA, sB]
   clear HS
   refine ld fun W11 HS => ?_
   go_upto_region 29 with fail
   refine lnb HS.out rfl ?_
   refine lm 0 28 rfl rfl rfl rfl ?_
   simp only [sA, sB]
   refine lm 1 164 rfl rfl rfl rfl ?_
   simp only [sA, sB]
   refine lin_if (i := 2) (v := .bool ((bif (bif (bif (bif (bif (x2 == x3) then (x4 == x5) else false) then true else (x0 == 32#64)) then true else (x0 == 48#64)) then true else (x0 == 160#64)) then true else (x0 == 176#64)))) (jmpIs (ti x0)) rfl rfl (by generalize (jmpIs (ti x0)) = gg0; cases gg0 <;> rfl) (by intro hb; have hb124 := hid (show (jmpIs (ti x0)) = true from hb); intro x hx; (try simp only [hb]); (try simp only [cond_true]); go_simp; all_goals exact rfl) ?_
   simp only [sA, sB]
   refine lv 3 (.bool ((bif jmpIs (ti x0) then (bif (bif (bif (bif (bif (x2 == x3) then (x4 == x5) else false) then true else (x0 == 32#64)) then true else (x0 == 48#64)) then true else (x0 == 160#64)) then true else (x0 == 176#64)) else false))) rfl rfl (by intro x hx; (cases hq : (jmpIs (ti x0)) <;> first | rfl | (simp only [hq]; rfl) | simp [hq])) ?_
   simp only [sA, sB]
   refine lm 4 167 rfl rfl rfl rfl ?_
   simp only [sA, sB]
   refine lin_if (i := 5) (v := .bool ((scalar_Branch x0 x1 (btw x2 x3) (btw x4 x5) false).2.2)) (bif jmpIs (ti x0) then (bif (bif (bif (bif (bif (x2 == x3) then (x4 == x5) else false) then true else (x0 == 32#64)) then true else (x0 == 48#64)) then true else (x0 == 160#64)) then true else (x0 == 176#64)) else false) rfl rfl (by generalize (bif jmpIs (ti x0) then (bif (bif (bif (bif (bif (x2 == x3) then (x4 == x5) else false) then true else (x0 == 32#64)) then true else (x0 == 48#64)) then true else (x0 == 160#64)) then true else (x0 == 176#64)) else false) = gg0; cases gg0 <;> rfl) (by intro hb; have hb125 := hid (show ((bif jmpIs (ti x0) then (bif (bif (bif (bif (bif (x2 == x3) then (x4 == x5) else false) then true else (x0 == 32#64)) then true else (x0 == 48#64)) then true else (x0 == 160#64)) then true else (x0 == 176#64)) else false)) = true from hb); intro x hx; (try simp only [hb]); (try simp only [cond_true]); go_simp; all_goals exact rfl) ?_
   simp only [sA, sB]
   refine lin_if (i := 6) (v := .int .i64 0) (bif jmpIs (ti x0) then (bif (bif (bif (bif (bif (x2 == x3) then (x4 == x5) else false) then true else (x0 == 32#64)) then true else (x0 == 48#64)) then true else (x0 == 160#64)) then true else (x0 == 176#64)) else false) rfl rfl (by generalize (bif jmpIs (ti x0) then (bif (bif (bif (bif (bif (x2 == x3) then (x4 == x5) else false) then true else (x0 == 32#64)) then true else (x0 == 48#64)) then true else (x0 == 160#64)) then true else (x0 == 176#64)) else false) = gg0; cases gg0 <;> rfl) (by intro hb; have hb126 := hid (show ((bif jmpIs (ti x0) then (bif (bif (bif (bif (bif (x2 == x3) then (x4 == x5) else false) then true else (x0 == 32#64)) then true else (x0 == 48#64)) then true else (x0 == 160#64)) then true else (x0 == 176#64)) else false)) = true from hb); intro x hx; (try simp only [hb]); (try simp only [cond_true]); go_simp; all_goals exact rfl) ?_
   simp only [sA, sB]
   refine lin_if (i := 7) (v := .pointer (some ⟨k4, 0, none⟩)) (bif jmpIs (ti x0) then (bif (bif (bif (bif (bif (x2 == x3) then (x4 == x5) else false) then true else (x0 == 32#64)) then true else (x0 == 48#64)) then true else (x0 == 160#64)) then true else (x0 == 176#64)) else false) rfl rfl (by generalize (bif jmpIs (ti x0) then (bif (bif (bif (bif (bif (x2 == x3) then (x4 == x5) else false) then true else (x0 == 32#64)) then true else (x0 == 48#64)) then true else (x0 == 160#64)) then true else (x0 == 176#64)) else false) = gg0; cases gg0 <;> rfl) (by intro hb; have hb127 := hid (show ((bif jmpIs (ti x0) then (bif (bif (bif (bif (bif (x2 == x3) then (x4 == x5) else false) then true else (x0 == 32#64)) then true else (x0 == 48#64)) then true else (x0 == 160#64)) then true else (x0 == 176#64)) else false)) = true from hb); intro x hx; (try simp only [hb]); (try simp only [cond_true]); go_simp; all_goals exact rfl) ?_
   simp only [sA, sB]
   refine lin_if (i := 8) (v := .bool ((canTo x0 x1 x2 x4 false (cnt x4 x5) (cnt x2 x3)))) (bif jmpIs (ti x0) then (bif (bif (bif (bif (bif (x2 == x3) then (x4 == x5) else false) then true else (x0 == 32#64)) then true else (x0 == 48#64)) then true else (x0 == 160#64)) then true else (x0 == 176#64)) else false) rfl rfl (by generalize (bif jmpIs (ti x0) then (bif (bif (bif (bif (bif (x2 == x3) then (x4 == x5) else false) then true else (x0 == 32#64)) then true else (x0 == 48#64)) then true else (x0 == 160#64)) then true else (x0 == 176#64)) else false) = gg0; cases gg0 <;> rfl) (by intro hb; have hb128 := hid (show ((bif jmpIs (ti x0) then (bif (bif (bif (bif (bif (x2 == x3) then (x4 == x5) else false) then true else (x0 == 32#64)) then true else (x0 == 48#64)) then true else (x0 == 160#64)) then true else (x0 == 176#64)) else false)) = true from hb); intro x hx; (try simp only [hb]); (try simp only [cond_true]); have f0 := hx.load 3 0 rfl rfl; go_simp; all_goals exact rfl) ?_
   simp only [sA, sB]
   refine lin_if (i := 9) (v := .bool false) (bif jmpIs (ti x0) then (bif (bif (bif (bif (bif (x2 == x3) then (x4 == x5) else false) then true else (x0 == 32#64)) then true else (x0 == 48#64)) then true else (x0 == 160#64)) then true else (x0 == 176#64)) else false) rfl rfl (by generalize (bif jmpIs (ti x0) then (bif (bif (bif (bif (bif (x2 == x3) then (x4 == x5) else false) then true else (x0 == 32#64)) then true else (x0 == 48#64)) then true else (x0 == 160#64)) then true else (x0 == 176#64)) else false) = gg0; cases gg0 <;> rfl) (by intro hb; have hb129 := hid (show ((bif jmpIs (ti x0) then (bif (bif (bif (bif (bif (x2 == x3) then (x4 == x5) else false) then true else (x0 == 32#64)) then true else (x0 == 48#64)) then true else (x0 == 160#64)) then true else (x0 == 176#64)) else false)) = true from hb); intro x hx; (try simp only [hb]); (try simp only [cond_true]); go_simp; (first | done | (first | exact nb_f (exact_may Hh1.out Hh2.out Hh3.out Hh4.out hb129.out) | exact eq_of_beq (nb_f (exact_may Hh1.out Hh2.out Hh3.out Hh4.out hb129.out)) | exact congrArg _ (nb_f (exact_may Hh1.out Hh2.out Hh3.out Hh4.out hb129.out)) | (rw [nb_f (exact_may Hh1.out Hh2.out Hh3.out Hh4.out hb129.out)]; done) | ((first | rfl | exact neB ((scalar_Branch x0 x1 (btw x2 x3) (btw x4 x5) false).2.2) (canTo x0 x1 x2 x4 false (cnt x4 x5) (cnt x2 x3)) | exact congrArg _ (neB ((scalar_Branch x0 x1 (btw x2 x3) (btw x4 x5) false).2.2) (canTo x0 x1 x2 x4 false (cnt x4 x5) (cnt x2 x3))) | (rw [neB ((scalar_Branch x0 x1 (btw x2 x3) (btw x4 x5) false).2.2) (canTo x0 x1 x2 x4 false (cnt x4 x5) (cnt x2 x3))]; done) | (rw [neB ((scalar_Branch x0 x1 (btw x2 x3) (btw x4 x5) false).2.2) (canTo x0 x1 x2 x4 false (cnt x4 x5) (cnt x2 x3))]; rfl)); rw [nb_f (exact_may Hh1.out Hh2.out Hh3.out Hh4.out hb129.out)]) | exact congrArg tn (eq_of_beq (nb_f (exact_may Hh1.out Hh2.out Hh3.out Hh4.out hb129.out))) | exact congrArg ti (eq_of_beq (nb_f (exact_may Hh1.out Hh2.out Hh3.out Hh4.out hb129.out))) | exact congrArg tn (eq_of_bne (nb_f (exact_may Hh1.out Hh2.out Hh3.out Hh4.out hb129.out))) | simpa using (nb_f (exact_may Hh1.out Hh2.out Hh3.out Hh4.out hb129.out))))) ?_
   simp only [sA, sB]
   refine lv 10 (.bool false) rfl rfl (by intro x hx; (cases hq : ((bif jmpIs (ti x0) then (bif (bif (bif (bif (bif (x2 == x3) then (x4 == x5) else false) then true else (x0 == 32#64)) then true else (x0 == 48#64)) then true else (x0 == 160#64)) then true else (x0 == 176#64)) else false)) <;> first | rfl | (simp only [hq]; rfl) | simp [hq])) ?_
   simp only [sA, sB]
   clear HS
   refine ld fun W12 HS => ?_
   go_upto_region 27 with fail
   refine lnb HS.out rfl ?_
   refine lm 0 30 rfl rfl rfl rfl ?_
   simp only [sA, sB]
   refine lv 1 (.int .i64 1) rfl rfl (by intro x hx; go_simp; all_goals exact rfl) ?_
   simp only [sA, sB]
   refine la 2 152 rfl rfl rfl rfl ?_
   simp only [sA, sB]
   clear HS
   refine ld fun W13 HS => ?_
   go_wp2
   rw [rounds_succ]
   go_upto_region 26 with fail
   refine lnb HS.out rfl ?_
   refine lm 0 30 rfl rfl rfl rfl ?_
   simp only [sA, sB]
   refine lv 1 (.bool true) rfl rfl (by intro x hx; go_simp; all_goals exact rfl) ?_
   simp only [sA, sB]
   clear HS
   refine ld fun W14 HS => ?_
   go_upto_region 28 with fail
   refine lnb HS.out rfl ?_
   refine lm 0 0 rfl rfl rfl rfl ?_
   simp only [sA, sB]
   refine lm 1 1 rfl rfl rfl rfl ?_
   simp only [sA, sB]
   refine lv 2 (vS (btw x2 x3)) rfl rfl (by intro x hx; obtain ⟨f0, f1, f2, f3, f4, f5⟩ := hx.six 0 0 rfl rfl; go_simp; all_goals exact rfl) ?_
   simp only [sA, sB, vS]
   refine lv 3 (vS (btw x4 x5)) rfl rfl (by intro x hx; obtain ⟨f0, f1, f2, f3, f4, f5⟩ := hx.six 1 0 rfl rfl; go_simp; all_goals exact rfl) ?_
   simp only [sA, sB, vS]
   refine lm 4 30 rfl rfl rfl rfl ?_
   simp only [sA, sB]
   refine lv 5 (.bool true) rfl rfl (by intro x hx; go_simp; all_goals exact rfl) ?_
   simp only [sA, sB]
   refine lc 6 5 #[.int .i64 (ti (x0)), .bool (x1), vS (btw x2 x3), vS (btw x4 x5), .bool true] (.tuple #[vS ((scalar_Branch x0 x1 (btw x2 x3) (btw x4 x5) true).1), vS ((scalar_Branch x0 x1 (btw x2 x3) (btw x4 x5) true).2.1), .bool ((scalar_Branch x0 x1 (btw x2 x3) (btw x4 x5) true).2.2)]) rfl rfl (by intro x hx; exact scalar_Branch_any x0 x1 (btw x2 x3) (btw x4 x5) true _) ?_
   simp only [sA, sB, vS]
   refine lm 7 160 rfl rfl rfl rfl ?_
   simp only [sA, sB]
   refine lv 8 (vS ((scalar_Branch x0 x1 (btw x2 x3) (btw x4 x5) true).1)) rfl rfl (by intro x hx; go_simp; all_goals exact rfl) ?_
   simp only [sA, sB, vS]
   refine lv 9 (vS ((scalar_Branch x0 x1 (btw x2 x3) (btw x4 x5) true).2.1)) rfl rfl (by intro x hx; go_simp; all_goals exact rfl) ?_
   simp only [sA, sB, vS]
   refine lv 10 (.bool ((scalar_Branch x0 x1 (btw x2 x3) (btw x4 x5) true).2.2)) rfl rfl (by intro x hx; go_simp; all_goals exact rfl) ?_
   simp only [sA, sB]
   refine lin_new (i := 11) rfl rfl (by rfl) [.int .u64 0, .int .u64 0, .int .u64 0, .int .u64 0, .int .i64 0, .int .i64 0] 31 (fun k => .pointer (some ⟨k, 0, none⟩)) [some (.int .u64 0), some (.int .u64 0), some (.int .u64 0), some (.int .u64 0), some (.int .i64 0), some (.int .i64 0)] (lessC_refl _) (by intro x hx; go_simp; all_goals exact rfl) (fun k7 => ?_)
   simp only [sA, sB, sC, sD]
   refine lin_new (i := 12) rfl rfl (by rfl) [.int .u64 0, .int .u64 0, .int .u64 0, .int .u64 0, .int .i64 0, .int .i64 0] 31 (fun k => .pointer (some ⟨k, 0, none⟩)) [some (.int .u64 0), some (.int .u64 0), some (.int .u64 0), some (.int .u64 0), some (.int .i64 0), some (.int .i64 0)] (lessC_refl _) (by intro x hx; go_simp; all_goals exact rfl) (fun k8 => ?_)
   simp only [sA, sB, sC, sD]
   refine ls 13 6 0 (cS ((scalar_Branch x0 x1 (btw x2 x3) (btw x4 x5) true).1)) rfl rfl rfl (by intro x hx; obtain ⟨⟨_, z0, q0⟩, ⟨_, z1, q1⟩, ⟨_, z2, q2⟩, ⟨_, z3, q3⟩, ⟨_, z4, q4⟩, ⟨_, z5, q5⟩⟩ := hx.at6 6 0 rfl; go_simp; all_goals rfl) ?_
   simp only [Blk.putC, setM, cS, sA, sB]
   refine ls 14 7 0 (cS ((scalar_Branch x0 x1 (btw x2 x3) (btw x4 x5) true).2.1)) rfl rfl rfl (by intro x hx; obtain ⟨⟨_, z0, q0⟩, ⟨_, z1, q1⟩, ⟨_, z2, q2⟩, ⟨_, z3, q3⟩, ⟨_, z4, q4⟩, ⟨_, z5, q5⟩⟩ := hx.at6 7 0 rfl; go_simp; all_goals rfl) ?_
   simp only [Blk.putC, setM, cS, sA, sB]
   refine la 15 163 rfl rfl rfl rfl ?_
   simp only [sA, sB]
   clear HS
   refine ld fun W15 HS => ?_
   go_upto_region 29 with fail
   refine lnb HS.out rfl ?_
   refine lm 0 28 rfl rfl rfl rfl ?_
   simp only [sA, sB]
   refine lm 1 164 rfl rfl rfl rfl ?_
   simp only [sA, sB]
   refine lin_if (i := 2) (v := .bool ((bif (bif (bif (bif (bif (x2 == x3) then (x4 == x5) else false) then true else (x0 == 32#64)) then true else (x0 == 48#64)) then true else (x0 == 160#64)) then true else (x0 == 176#64)))) (jmpIs (ti x0)) rfl rfl (by generalize (jmpIs (ti x0)) = gg0; cases gg0 <;> rfl) (by intro hb; have hb130 := hid (show (jmpIs (ti x0)) = true from hb); intro x hx; (try simp only [hb]); (try simp only [cond_true]); go_simp; all_goals exact rfl) ?_
   simp only [sA, sB]
   refine lv 3 (.bool ((bif jmpIs (ti x0) then (bif (bif (bif (bif (bif (x2 == x3) then (x4 == x5) else false) then true else (x0 == 32#64)) then true else (x0 == 48#64)) then true else (x0 == 160#64)) then true else (x0 == 176#64)) else false))) rfl rfl (by intro x hx; (cases hq : (jmpIs (ti x0)) <;> first | rfl | (simp only [hq]; rfl) | simp [hq])) ?_
   simp only [sA, sB]
   refine lm 4 167 rfl rfl rfl rfl ?_
   simp only [sA, sB]
   refine lin_if (i := 5) (v := .bool ((scalar_Branch x0 x1 (btw x2 x3) (btw x4 x5) true).2.2)) (bif jmpIs (ti x0) then (bif (bif (bif (bif (bif (x2 == x3) then (x4 == x5) else false) then true else (x0 == 32#64)) then true else (x0 == 48#64)) then true else (x0 == 160#64)) then true else (x0 == 176#64)) else false) rfl rfl (by generalize (bif jmpIs (ti x0) then (bif (bif (bif (bif (bif (x2 == x3) then (x4 == x5) else false) then true else (x0 == 32#64)) then true else (x0 == 48#64)) then true else (x0 == 160#64)) then true else (x0 == 176#64)) else false) = gg0; cases gg0 <;> rfl) (by intro hb; have hb131 := hid (show ((bif jmpIs (ti x0) then (bif (bif (bif (bif (bif (x2 == x3) then (x4 == x5) else false) then true else (x0 == 32#64)) then true else (x0 == 48#64)) then true else (x0 == 160#64)) then true else (x0 == 176#64)) else false)) = true from hb); intro x hx; (try simp only [hb]); (try simp only [cond_true]); go_simp; all_goals exact rfl) ?_
   simp only [sA, sB]
   refine lin_if (i := 6) (v := .int .i64 1) (bif jmpIs (ti x0) then (bif (bif (bif (bif (bif (x2 == x3) then (x4 == x5) else false) then true else (x0 == 32#64)) then true else (x0 == 48#64)) then true else (x0 == 160#64)) then true else (x0 == 176#64)) else false) rfl rfl (by generalize (bif jmpIs (ti x0) then (bif (bif (bif (bif (bif (x2 == x3) then (x4 == x5) else false) then true else (x0 == 32#64)) then true else (x0 == 48#64)) then true else (x0 == 160#64)) then true else (x0 == 176#64)) else false) = gg0; cases gg0 <;> rfl) (by intro hb; have hb132 := hid (show ((bif jmpIs (ti x0) then (bif (bif (bif (bif (bif (x2 == x3) then (x4 == x5) else false) then true else (x0 == 32#64)) then true else (x0 == 48#64)) then true else (x0 == 160#64)) then true else (x0 == 176#64)) else false)) = true from hb); intro x hx; (try simp only [hb]); (try simp only [cond_true]); go_simp; all_goals exact rfl) ?_
   simp only [sA, sB]
   refine lin_if (i := 7) (v := .pointer (some ⟨k4, 1, none⟩)) (bif jmpIs (ti x0) then (bif (bif (bif (bif (bif (x2 == x3) then (x4 == x5) else false) then true else (x0 == 32#64)) then true else (x0 == 48#64)) then true else (x0 == 160#64)) then true else (x0 == 176#64)) else false) rfl rfl (by generalize (bif jmpIs (ti x0) then (bif (bif (bif (bif (bif (x2 == x3) then (x4 == x5) else false) then true else (x0 == 32#64)) then true else (x0 == 48#64)) then true else (x0 == 160#64)) then true else (x0 == 176#64)) else false) = gg0; cases gg0 <;> rfl) (by intro hb; have hb133 := hid (show ((bif jmpIs (ti x0) then (bif (bif (bif (bif (bif (x2 == x3) then (x4 == x5) else false) then true else (x0 == 32#64)) then true else (x0 == 48#64)) then true else (x0 == 160#64)) then true else (x0 == 176#64)) else false)) = true from hb); intro x hx; (try simp only [hb]); (try simp only [cond_true]); go_simp; all_goals exact rfl) ?_
   simp only [sA, sB]
   refine lin_if (i := 8) (v := .bool ((canTo x0 x1 x2 x4 true (cnt x4 x5) (cnt x2 x3)))) (bif jmpIs (ti x0) then (bif (bif (bif (bif (bif (x2 == x3) then (x4 == x5) else false) then true else (x0 == 32#64)) then true else (x0 == 48#64)) then true else (x0 == 160#64)) then true else (x0 == 176#64)) else false) rfl rfl (by generalize (bif jmpIs (ti x0) then (bif (bif (bif (bif (bif (x2 == x3) then (x4 == x5) else false) then true else (x0 == 32#64)) then true else (x0 == 48#64)) then true else (x0 == 160#64)) then true else (x0 == 176#64)) else false) = gg0; cases gg0 <;> rfl) (by intro hb; have hb134 := hid (show ((bif jmpIs (ti x0) then (bif (bif (bif (bif (bif (x2 == x3) then (x4 == x5) else false) then true else (x0 == 32#64)) then true else (x0 == 48#64)) then true else (x0 == 160#64)) then true else (x0 == 176#64)) else false)) = true from hb); intro x hx; (try simp only [hb]); (try simp only [cond_true]); have f0 := hx.load 3 1 rfl rfl; go_simp; all_goals exact rfl) ?_
   simp only [sA, sB]
   refine lin_if (i := 9) (v := .bool false) (bif jmpIs (ti x0) then (bif (bif (bif (bif (bif (x2 == x3) then (x4 == x5) else false) then true else (x0 == 32#64)) then true else (x0 == 48#64)) then true else (x0 == 160#64)) then true else (x0 == 176#64)) else false) rfl rfl (by generalize (bif jmpIs (ti x0) then (bif (bif (bif (bif (bif (x2 == x3) then (x4 == x5) else false) then true else (x0 == 32#64)) then true else (x0 == 48#64)) then true else (x0 == 160#64)) then true else (x0 == 176#64)) else false) = gg0; cases gg0 <;> rfl) (by intro hb; have hb135 := hid (show ((bif jmpIs (ti x0) then (bif (bif (bif (bif (bif (x2 == x3) then (x4 == x5) else false) then true else (x0 == 32#64)) then true else (x0 == 48#64)) then true else (x0 == 160#64)) then true else (x0 == 176#64)) else false)) = true from hb); intro x hx; (try simp only [hb]); (try simp only [cond_true]); go_simp; (first | done | (first | exact nb_f (exact_may Hh1.out Hh2.out Hh3.out Hh4.out hb135.out) | exact eq_of_beq (nb_f (exact_may Hh1.out Hh2.out Hh3.out Hh4.out hb135.out)) | exact congrArg _ (nb_f (exact_may Hh1.out Hh2.out Hh3.out Hh4.out hb135.out)) | (rw [nb_f (exact_may Hh1.out Hh2.out Hh3.out Hh4.out hb135.out)]; done) | ((first | rfl | exact neB ((scalar_Branch x0 x1 (btw x2 x3) (btw x4 x5) true).2.2) (canTo x0 x1 x2 x4 true (cnt x4 x5) (cnt x2 x3)) | exact congrArg _ (neB ((scalar_Branch x0 x1 (btw x2 x3) (btw x4 x5) true).2.2) (canTo x0 x1 x2 x4 true (cnt x4 x5) (cnt x2 x3))) | (rw [neB ((scalar_Branch x0 x1 (btw x2 x3) (btw x4 x5) true).2.2) (canTo x0 x1 x2 x4 true (cnt x4 x5) (cnt x2 x3))]; done) | (rw [neB ((scalar_Branch x0 x1 (btw x2 x3) (btw x4 x5) true).2.2) (canTo x0 x1 x2 x4 true (cnt x4 x5) (cnt x2 x3))]; rfl)); rw [nb_f (exact_may Hh1.out Hh2.out Hh3.out Hh4.out hb135.out)]) | exact congrArg tn (eq_of_beq (nb_f (exact_may Hh1.out Hh2.out Hh3.out Hh4.out hb135.out))) | exact congrArg ti (eq_of_beq (nb_f (exact_may Hh1.out Hh2.out Hh3.out Hh4.out hb135.out))) | exact congrArg tn (eq_of_bne (nb_f (exact_may Hh1.out Hh2.out Hh3.out Hh4.out hb135.out))) | simpa using (nb_f (exact_may Hh1.out Hh2.out Hh3.out Hh4.out hb135.out))))) ?_
   simp only [sA, sB]
   refine lv 10 (.bool false) rfl rfl (by intro x hx; (cases hq : ((bif jmpIs (ti x0) then (bif (bif (bif (bif (bif (x2 == x3) then (x4 == x5) else false) then true else (x0 == 32#64)) then true else (x0 == 48#64)) then true else (x0 == 160#64)) then true else (x0 == 176#64)) else false)) <;> first | rfl | (simp only [hq]; rfl) | simp [hq])) ?_
   simp only [sA, sB]
   clear HS
   refine ld fun W16 HS => ?_
   go_upto_region 27 with fail
   refine lnb HS.out rfl ?_
   refine lm 0 30 rfl rfl rfl rfl ?_
   simp only [sA, sB]
   refine lv 1 (.int .i64 2) rfl rfl (by intro x hx; go_simp; all_goals exact rfl) ?_
   simp only [sA, sB]
   refine la 2 152 rfl rfl rfl rfl ?_
   simp only [sA, sB]
   clear HS
   refine ld fun W17 HS => ?_
   go_wp2
   rw [rounds_succ]
   go_upto_region 26 with fail
   refine lnb HS.out rfl ?_
   refine lm 0 30 rfl rfl rfl rfl ?_
   simp only [sA, sB]
   refine lv 1 (.bool false) rfl rfl (by intro x hx; go_simp; all_goals exact rfl) ?_
   simp only [sA, sB]
   clear HS
   refine ld fun W18 HS => ?_
   go_upto_region 31 with fail
   refine lnb HS.out rfl ?_
   refine lv 0 (.bool true) rfl rfl (by intro x hx; go_simp; all_goals exact rfl) ?_
   simp only [sA, sB]
   clear HS
   refine ld fun W19 HS => ?_
   go_wp2
   exact bodyPost_ret (v := .bool true) (by simp [results, Tryz.results4, go_sem]) rfl ⟨rfl, HS.out.below⟩
end Go.Proofs.YtmcapfbkedfdkaaGreatDoor.Sp
