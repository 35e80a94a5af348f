/-
  The walk of exact.
-/
import Derived.Deep.DeepCutAuto
import Derived.Test.YtpbhfpogbndljaaDoorRtX
namespace Go.Proofs.YtpbhfpogbndljaaDoor.Rt
open Go.RowKit Go.Proofs.YtpbhfpogbndljaaDoor.Num Go.Proofs.YtpbhfpogbndljaaDoor.Up
set_option maxRecDepth 100000 in
set_option maxHeartbeats 16000000 in
theorem exact_any (x0 : P) (x1 : P)   (w : World) :
    Calls Tryd.prog 4 #[vU x0, vU x1] w fun e w' => e = .returned (.bool (exactB x0 x1)) ∧ Below w.heap.size w w' := by
  simp only [vU]
  go_enter Tryd.func4, Tryd.ntmps4
  have HS : Hid (St w [⟨w.heap.size, [some (.int .u64 (tn (x0.lo))), some (.int .u64 (tn (x0.hi)))], 24⟩, ⟨w.heap.size + 1, [some (.int .u64 (tn (x1.lo))), some (.int .u64 (tn (x1.hi)))], 24⟩] _) := hid (((st_nil w).alloc (k := w.heap.size) rfl [.int .u64 (tn (x0.lo)), .int .u64 (tn (x0.hi))] 24).alloc (k := w.heap.size + 1) (by simp) [.int .u64 (tn (x1.lo)), .int .u64 (tn (x1.hi))] 24)
  go_upto_region 1 with fail
  refine lnb HS.out rfl ?_
  refine lin_new (i := 0) rfl rfl (by rfl) [.int .u64 0, .int .u64 0, .int .u64 0, .int .u64 0, .int .u64 0] 32 (fun k => .pointer (some ⟨k, 0, none⟩)) [some (.int .u64 0), some (.int .u64 0), some (.int .u64 0), some (.int .u64 0), some (.int .u64 0)] (lessC_refl _) (by intro x hx; go_simp; (first | done | exact rfl)) (fun k1 => ?_)
  simp only [sA, sB, sC, sD]
  clear HS
  refine ld fun W1 HS => ?_
  go_upto_region 2 with fail
  refine lnb HS.out rfl ?_
  refine lin_new (i := 0) rfl rfl (by rfl) [.int .u64 0, .int .u64 0, .int .u64 0, .int .u64 0, .int .u64 0] 32 (fun k => .pointer (some ⟨k, 0, none⟩)) [some (.int .u64 0), some (.int .u64 0), some (.int .u64 0), some (.int .u64 0), some (.int .u64 0)] (lessC_refl _) (by intro x hx; go_simp; (first | done | exact rfl)) (fun k2 => ?_)
  simp only [sA, sB, sC, sD]
  clear HS
  refine ld fun W2 HS => ?_
  go_upto_region 3 with fail
  refine lnb HS.out rfl ?_
  refine lv 0 (.int .i64 0) rfl rfl (by intro x hx; go_simp; (first | done | exact rfl)) ?_
  simp only [sA, sB]
  clear HS
  refine ld fun W3 HS => ?_
  go_upto_region 4 with fail
  refine lnb HS.out rfl ?_
  refine lv 0 (.int .u64 0) rfl rfl (by intro x hx; go_simp; (first | done | exact rfl)) ?_
  simp only [sA, sB]
  clear HS
  refine ld fun W4 HS => ?_
  go_wp2
  refine loop_up 8 (fun k a W => Hid (∃ u1_9 u1_10 u1_11 u1_14 u1_15 u1_16 u1_17 u1_18 u1_19 u1_20 u1_21 u1_22 u1_23 u1_24 u1_25 u1_26 u1_27 u1_28 u1_29 u1_30 u1_31 u1_32 u1_33 u1_34 u1_35 u1_36 u1_37 u1_38 u1_39 u1_40 u1_41 u1_42 u1_43 u1_44 u1_45 u1_46 u1_47 u1_48 u1_49 u1_50 u1_51 u1_52 u1_53 u1_54 u1_55 u1_56 u1_57 u1_58 u1_59 u1_60 u1_61 u1_62 u1_63 u1_64 u1_65 u1_66 u1_67 u1_68 u1_69 u1_70 u1_71 u1_72 u1_73 : Value, a = Act.mk [vU x0, vU x1, .pointer (some ⟨w.heap.size, 0, none⟩), .pointer (some ⟨w.heap.size + 1, 0, none⟩), .bool false, .pointer (some ⟨k1, 0, none⟩), .pointer (some ⟨k2, 0, none⟩), .int .i64 (((exAll x0 x1 k).n : Nat) : Int), .int .u64 (tn (BitVec.ofNat 64 k)), u1_9, u1_10, u1_11, undef, undef, u1_14, u1_15, u1_16, u1_17, u1_18, u1_19, u1_20, u1_21, u1_22, u1_23, u1_24, u1_25, u1_26, u1_27, u1_28, u1_29, u1_30, u1_31, u1_32, u1_33, u1_34, u1_35, u1_36, u1_37, u1_38, u1_39, u1_40, u1_41, u1_42, u1_43, u1_44, u1_45, u1_46, u1_47, u1_48, u1_49, u1_50, u1_51, u1_52, u1_53, u1_54, u1_55, u1_56, u1_57, u1_58, u1_59, u1_60, u1_61, u1_62, u1_63, u1_64, u1_65, u1_66, u1_67, u1_68, u1_69, u1_70, u1_71, u1_72, u1_73, undef, undef, undef, undef, undef, undef, undef, undef, undef, undef, undef, undef, undef, undef, undef, undef, undef, undef, undef, undef, undef, undef, undef, undef, undef, undef, undef, undef, undef, undef, undef, undef, undef, undef, undef, undef, undef, undef, undef, undef, undef, undef, undef, undef].toArray [] ∧ St w [⟨w.heap.size, [some (.int .u64 (tn (x0.lo))), some (.int .u64 (tn (x0.hi)))], 24⟩, ⟨w.heap.size + 1, [some (.int .u64 (tn (x1.lo))), some (.int .u64 (tn (x1.hi)))], 24⟩, ⟨k1, [some (.int .u64 (tn ((exAll x0 x1 k).f.c0))), some (.int .u64 (tn ((exAll x0 x1 k).f.c1))), some (.int .u64 (tn ((exAll x0 x1 k).f.c2))), some (.int .u64 (tn ((exAll x0 x1 k).f.c3))), some (.int .u64 (tn ((exAll x0 x1 k).f.c4)))], 32⟩, ⟨k2, [some (.int .u64 (tn ((exAll x0 x1 k).d.c0))), some (.int .u64 (tn ((exAll x0 x1 k).d.c1))), some (.int .u64 (tn ((exAll x0 x1 k).d.c2))), some (.int .u64 (tn ((exAll x0 x1 k).d.c3))), some (.int .u64 (tn ((exAll x0 x1 k).d.c4)))], 32⟩] W)) (hid ⟨(undef), (undef), (undef), (undef), (undef), (undef), (undef), (undef), (undef), (undef), (undef), (undef), (undef), (undef), (undef), (undef), (undef), (undef), (undef), (undef), (undef), (undef), (undef), (undef), (undef), (undef), (undef), (undef), (undef), (undef), (undef), (undef), (undef), (undef), (undef), (undef), (undef), (undef), (undef), (undef), (undef), (undef), (undef), (undef), (undef), (undef), (undef), (undef), (undef), (undef), (undef), (undef), (undef), (undef), (undef), (undef), (undef), (undef), (undef), (undef), (undef), (undef), (undef), rfl, HS.out⟩) (fun r1 a W hr hR => ?_)
  obtain ⟨u1_9, u1_10, u1_11, u1_14, u1_15, u1_16, u1_17, u1_18, u1_19, u1_20, u1_21, u1_22, u1_23, u1_24, u1_25, u1_26, u1_27, u1_28, u1_29, u1_30, u1_31, u1_32, u1_33, u1_34, u1_35, u1_36, u1_37, u1_38, u1_39, u1_40, u1_41, u1_42, u1_43, u1_44, u1_45, u1_46, u1_47, u1_48, u1_49, u1_50, u1_51, u1_52, u1_53, u1_54, u1_55, u1_56, u1_57, u1_58, u1_59, u1_60, u1_61, u1_62, u1_63, u1_64, u1_65, u1_66, u1_67, u1_68, u1_69, u1_70, u1_71, u1_72, u1_73, rfl, hS⟩ := hR.out
  replace HS := hid hS
  clear hS hR
  by_cases hlt1 : r1 < 8
  · -- round
    go_upto_region 5 with fail
    refine lnb HS.out rfl ?_
    refine lm 0 8 rfl rfl rfl rfl ?_
    simp only [sA, sB]
    refine lv 1 (.bool true) rfl rfl (by intro x hx; go_simp; (first | done | (first | exact xn_lt hlt1 | exact eq_of_beq (xn_lt hlt1) | exact congrArg _ (xn_lt hlt1) | (rw [xn_lt hlt1]; done) | ((first | rfl | exact ltUT (BitVec.ofNat 64 r1) 8#64 | exact congrArg _ (ltUT (BitVec.ofNat 64 r1) 8#64) | (rw [ltUT (BitVec.ofNat 64 r1) 8#64]; done) | (rw [ltUT (BitVec.ofNat 64 r1) 8#64]; rfl)); rw [xn_lt hlt1]) | exact congrArg tn (eq_of_beq (xn_lt hlt1)) | exact congrArg ti (eq_of_beq (xn_lt hlt1)) | exact congrArg tn (eq_of_bne (xn_lt hlt1)) | exact of_decide_eq_true (xn_lt hlt1) | exact Int.not_le.1 (of_decide_eq_false (xn_lt hlt1)) | exact Int.not_lt.1 (of_decide_eq_false (xn_lt hlt1)) | simpa using (xn_lt hlt1)))) ?_
    simp only [sA, sB]
    clear HS
    refine ld fun W5 HS => ?_
    go_upto_region 7 with fail
    refine lnb HS.out rfl ?_
    refine lv 0 (.int .u64 0) rfl rfl (by intro x hx; go_simp; (first | done | exact rfl)) ?_
    simp only [sA, sB]
    clear HS
    refine ld fun W6 HS => ?_
    go_wp2
    refine loop_up 8 (fun k a W => Hid (∃ u2_10 u2_11 u2_18 u2_19 u2_20 u2_21 u2_22 u2_23 u2_24 u2_25 u2_26 u2_27 u2_28 u2_29 u2_30 u2_31 u2_32 u2_33 u2_34 u2_35 u2_36 u2_37 u2_38 u2_39 u2_40 u2_41 u2_42 u2_43 u2_44 u2_45 u2_46 u2_47 u2_48 u2_49 u2_50 u2_51 u2_52 u2_53 u2_54 u2_55 u2_56 u2_57 u2_58 u2_59 u2_60 u2_61 u2_62 u2_63 u2_64 u2_65 u2_66 u2_67 u2_68 u2_69 u2_70 u2_71 u2_72 u2_73 : Value, a = Act.mk [vU x0, vU x1, .pointer (some ⟨w.heap.size, 0, none⟩), .pointer (some ⟨w.heap.size + 1, 0, none⟩), .bool false, .pointer (some ⟨k1, 0, none⟩), .pointer (some ⟨k2, 0, none⟩), .int .i64 (((exRow x0 x1 (BitVec.ofNat 64 r1) (exAll x0 x1 r1) k).n : Nat) : Int), .int .u64 (tn (BitVec.ofNat 64 r1)), .int .u64 (tn (BitVec.ofNat 64 k)), u2_10, u2_11, undef, undef, .int .u64 (tn (BitVec.ofNat 64 r1)), .bool true, u1_16, u1_17, u2_18, u2_19, u2_20, u2_21, u2_22, u2_23, u2_24, u2_25, u2_26, u2_27, u2_28, u2_29, u2_30, u2_31, u2_32, u2_33, u2_34, u2_35, u2_36, u2_37, u2_38, u2_39, u2_40, u2_41, u2_42, u2_43, u2_44, u2_45, u2_46, u2_47, u2_48, u2_49, u2_50, u2_51, u2_52, u2_53, u2_54, u2_55, u2_56, u2_57, u2_58, u2_59, u2_60, u2_61, u2_62, u2_63, u2_64, u2_65, u2_66, u2_67, u2_68, u2_69, u2_70, u2_71, u2_72, u2_73, undef, undef, undef, undef, undef, undef, undef, undef, undef, undef, undef, undef, undef, undef, undef, undef, undef, undef, undef, undef, undef, undef, undef, undef, undef, undef, undef, undef, undef, undef, undef, undef, undef, undef, undef, undef, undef, undef, undef, undef, undef, undef, undef, undef].toArray [] ∧ St w [⟨w.heap.size, [some (.int .u64 (tn (x0.lo))), some (.int .u64 (tn (x0.hi)))], 24⟩, ⟨w.heap.size + 1, [some (.int .u64 (tn (x1.lo))), some (.int .u64 (tn (x1.hi)))], 24⟩, ⟨k1, [some (.int .u64 (tn ((exRow x0 x1 (BitVec.ofNat 64 r1) (exAll x0 x1 r1) k).f.c0))), some (.int .u64 (tn ((exRow x0 x1 (BitVec.ofNat 64 r1) (exAll x0 x1 r1) k).f.c1))), some (.int .u64 (tn ((exRow x0 x1 (BitVec.ofNat 64 r1) (exAll x0 x1 r1) k).f.c2))), some (.int .u64 (tn ((exRow x0 x1 (BitVec.ofNat 64 r1) (exAll x0 x1 r1) k).f.c3))), some (.int .u64 (tn ((exRow x0 x1 (BitVec.ofNat 64 r1) (exAll x0 x1 r1) k).f.c4)))], 32⟩, ⟨k2, [some (.int .u64 (tn ((exRow x0 x1 (BitVec.ofNat 64 r1) (exAll x0 x1 r1) k).d.c0))), some (.int .u64 (tn ((exRow x0 x1 (BitVec.ofNat 64 r1) (exAll x0 x1 r1) k).d.c1))), some (.int .u64 (tn ((exRow x0 x1 (BitVec.ofNat 64 r1) (exAll x0 x1 r1) k).d.c2))), some (.int .u64 (tn ((exRow x0 x1 (BitVec.ofNat 64 r1) (exAll x0 x1 r1) k).d.c3))), some (.int .u64 (tn ((exRow x0 x1 (BitVec.ofNat 64 r1) (exAll x0 x1 r1) k).d.c4)))], 32⟩] W)) (hid ⟨(u1_10), (u1_11), (u1_18), (u1_19), (u1_20), (u1_21), (u1_22), (u1_23), (u1_24), (u1_25), (u1_26), (u1_27), (u1_28), (u1_29), (u1_30), (u1_31), (u1_32), (u1_33), (u1_34), (u1_35), (u1_36), (u1_37), (u1_38), (u1_39), (u1_40), (u1_41), (u1_42), (u1_43), (u1_44), (u1_45), (u1_46), (u1_47), (u1_48), (u1_49), (u1_50), (u1_51), (u1_52), (u1_53), (u1_54), (u1_55), (u1_56), (u1_57), (u1_58), (u1_59), (u1_60), (u1_61), (u1_62), (u1_63), (u1_64), (u1_65), (u1_66), (u1_67), (u1_68), (u1_69), (u1_70), (u1_71), (u1_72), (u1_73), rfl, HS.out⟩) (fun r2 a W hr hR => ?_)
    obtain ⟨u2_10, u2_11, u2_18, u2_19, u2_20, u2_21, u2_22, u2_23, u2_24, u2_25, u2_26, u2_27, u2_28, u2_29, u2_30, u2_31, u2_32, u2_33, u2_34, u2_35, u2_36, u2_37, u2_38, u2_39, u2_40, u2_41, u2_42, u2_43, u2_44, u2_45, u2_46, u2_47, u2_48, u2_49, u2_50, u2_51, u2_52, u2_53, u2_54, u2_55, u2_56, u2_57, u2_58, u2_59, u2_60, u2_61, u2_62, u2_63, u2_64, u2_65, u2_66, u2_67, u2_68, u2_69, u2_70, u2_71, u2_72, u2_73, rfl, hS⟩ := hR.out
    replace HS := hid hS
    clear hS hR
    by_cases hlt2 : r2 < 8
    · -- round
      have hn2 := exRow_n (a := x0) (b := x1) (x := BitVec.ofNat 64 r1) hlt1 hlt2
      go_upto_region 8 with fail
      refine lnb HS.out rfl ?_
      refine lm 0 9 rfl rfl rfl rfl ?_
      simp only [sA, sB]
      refine lv 1 (.bool true) rfl rfl (by intro x hx; go_simp; (first | done | (first | exact xn_lt hlt2 | exact eq_of_beq (xn_lt hlt2) | exact congrArg _ (xn_lt hlt2) | (rw [xn_lt hlt2]; done) | ((first | rfl | exact ltUT (BitVec.ofNat 64 r2) 8#64 | exact congrArg _ (ltUT (BitVec.ofNat 64 r2) 8#64) | (rw [ltUT (BitVec.ofNat 64 r2) 8#64]; done) | (rw [ltUT (BitVec.ofNat 64 r2) 8#64]; rfl)); rw [xn_lt hlt2]) | exact congrArg tn (eq_of_beq (xn_lt hlt2)) | exact congrArg ti (eq_of_beq (xn_lt hlt2)) | exact congrArg tn (eq_of_bne (xn_lt hlt2)) | exact of_decide_eq_true (xn_lt hlt2) | exact Int.not_le.1 (of_decide_eq_false (xn_lt hlt2)) | exact Int.not_lt.1 (of_decide_eq_false (xn_lt hlt2)) | simpa using (xn_lt hlt2)))) ?_
      simp only [sA, sB]
      clear HS
      refine ld fun W7 HS => ?_
      go_upto_region 10 with fail
      refine lnb HS.out rfl ?_
      refine lv 0 (vU x0) rfl rfl (by intro x hx; obtain ⟨f0, f1⟩ := hx.two 0 0 rfl rfl; go_simp; (first | done | exact rfl)) ?_
      simp only [sA, sB, vU]
      refine lm 1 8 rfl rfl rfl rfl ?_
      simp only [sA, sB]
      refine lc 2 13 #[vU x0, .int .u64 (tn (BitVec.ofNat 64 r1))] (.bool (tnIn x0 (BitVec.ofNat 64 r1))) rfl rfl (by intro x hx; exact tnIn_any x0 (BitVec.ofNat 64 r1) _) ?_
      simp only [sA, sB]
      refine lv 3 (.bool ((!(tnIn x0 (BitVec.ofNat 64 r1))))) rfl rfl (by intro x hx; go_simp; (first | done | exact rfl)) ?_
      simp only [sA, sB]
      refine lm 4 25 rfl rfl rfl rfl ?_
      simp only [sA, sB]
      refine lin_if (i := 5) (v := vU x1) (!(!(tnIn x0 (BitVec.ofNat 64 r1)))) rfl rfl (by generalize (!(tnIn x0 (BitVec.ofNat 64 r1))) = gg0; cases gg0 <;> rfl) (by intro hb; have hb249 := hid (show ((!(tnIn x0 (BitVec.ofNat 64 r1)))) = false from nnb hb); intro x hx; (try simp only [hb]); (try simp only [cond_true]); obtain ⟨f0, f1⟩ := hx.two 1 0 rfl rfl; go_simp; (first | done | exact rfl)) ?_
      simp only [sA, sB, vU]
      refine lin_if (i := 6) (v := .int .u64 (tn (BitVec.ofNat 64 r2))) (!(!(tnIn x0 (BitVec.ofNat 64 r1)))) rfl rfl (by generalize (!(tnIn x0 (BitVec.ofNat 64 r1))) = gg0; cases gg0 <;> rfl) (by intro hb; have hb250 := hid (show ((!(tnIn x0 (BitVec.ofNat 64 r1)))) = false from nnb hb); intro x hx; (try simp only [hb]); (try simp only [cond_true]); go_simp; (first | done | exact rfl)) ?_
      simp only [sA, sB]
      refine lin_if_call (i := 7) (f := 13) (args := #[vU x1, .int .u64 (tn (BitVec.ofNat 64 r2))]) (v := .bool (tnIn x1 (BitVec.ofNat 64 r2))) (!(!(tnIn x0 (BitVec.ofNat 64 r1)))) (st_ups _ _) rfl rfl (by generalize (!(tnIn x0 (BitVec.ofNat 64 r1))) = gg0; cases gg0 <;> rfl) (by intro hb; have hb251 := hid (show ((!(tnIn x0 (BitVec.ofNat 64 r1)))) = false from nnb hb); intro x hx; (try simp only [hb]); (try simp only [cond_true]); kernel_rfl) (by intro hb; have hb251 := hid (show ((!(tnIn x0 (BitVec.ofNat 64 r1)))) = false from nnb hb); intro x hx; exact tnIn_any x1 (BitVec.ofNat 64 r2) _) ?_
      simp only [sA, sB]
      refine lin_if (i := 8) (v := .bool ((!(tnIn x1 (BitVec.ofNat 64 r2))))) (!(!(tnIn x0 (BitVec.ofNat 64 r1)))) rfl rfl (by generalize (!(tnIn x0 (BitVec.ofNat 64 r1))) = gg0; cases gg0 <;> rfl) (by intro hb; have hb252 := hid (show ((!(tnIn x0 (BitVec.ofNat 64 r1)))) = false from nnb hb); intro x hx; (try simp only [hb]); (try simp only [cond_true]); go_simp; (first | done | exact rfl)) ?_
      simp only [sA, sB]
      refine lv 9 (.bool ((bif (!(tnIn x0 (BitVec.ofNat 64 r1))) then true else (!(tnIn x1 (BitVec.ofNat 64 r2)))))) rfl rfl (by intro x hx; (cases hq : ((!(tnIn x0 (BitVec.ofNat 64 r1)))) <;> first | rfl | (simp only [hq]; rfl) | simp [hq])) ?_
      simp only [sA, sB]
      clear HS
      refine ld fun W8 HS => ?_
      cases h1 : ((bif (!(tnIn x0 (BitVec.ofNat 64 r1))) then true else (!(tnIn x1 (BitVec.ofNat 64 r2)))))
      ·replace h1 := hid h1
       go_upto_region 11 with fail
       refine lnb HS.out rfl ?_
       refine lm 0 8 rfl rfl rfl rfl ?_
       simp only [sA, sB]
       refine lm 1 9 rfl rfl rfl rfl ?_
       simp only [sA, sB]
       refine lv 2 (.int .u64 (tn ((BitVec.ofNat 64 r1) + (BitVec.ofNat 64 r2)))) rfl rfl (by intro x hx; go_simp; (first | done | exact addUT (BitVec.ofNat 64 r1) (BitVec.ofNat 64 r2) | exact congrArg _ (addUT (BitVec.ofNat 64 r1) (BitVec.ofNat 64 r2)) | (rw [addUT (BitVec.ofNat 64 r1) (BitVec.ofNat 64 r2)]; done) | (rw [addUT (BitVec.ofNat 64 r1) (BitVec.ofNat 64 r2)]; rfl))) ?_
       simp only [sA, sB]
       refine lm 3 8 rfl rfl rfl rfl ?_
       simp only [sA, sB]
       refine lm 4 9 rfl rfl rfl rfl ?_
       simp only [sA, sB]
       refine lv 5 (.int .u64 (tn ((BitVec.ofNat 64 r1) - (BitVec.ofNat 64 r2)))) rfl rfl (by intro x hx; go_simp; (first | done | exact subUT (BitVec.ofNat 64 r1) (BitVec.ofNat 64 r2) | exact congrArg _ (subUT (BitVec.ofNat 64 r1) (BitVec.ofNat 64 r2)) | (rw [subUT (BitVec.ofNat 64 r1) (BitVec.ofNat 64 r2)]; done) | (rw [subUT (BitVec.ofNat 64 r1) (BitVec.ofNat 64 r2)]; rfl))) ?_
       simp only [sA, sB]
       refine lm 6 8 rfl rfl rfl rfl ?_
       simp only [sA, sB]
       refine lm 7 9 rfl rfl rfl rfl ?_
       simp only [sA, sB]
       refine lv 8 (.int .u64 (tn ((BitVec.ofNat 64 r1) &&& (BitVec.ofNat 64 r2)))) rfl rfl (by intro x hx; go_simp; (first | done | exact andUT (BitVec.ofNat 64 r1) (BitVec.ofNat 64 r2) | exact congrArg _ (andUT (BitVec.ofNat 64 r1) (BitVec.ofNat 64 r2)) | (rw [andUT (BitVec.ofNat 64 r1) (BitVec.ofNat 64 r2)]; done) | (rw [andUT (BitVec.ofNat 64 r1) (BitVec.ofNat 64 r2)]; rfl))) ?_
       simp only [sA, sB]
       refine lm 9 8 rfl rfl rfl rfl ?_
       simp only [sA, sB]
       refine lm 10 9 rfl rfl rfl rfl ?_
       simp only [sA, sB]
       refine lv 11 (.int .u64 (tn ((BitVec.ofNat 64 r1) ||| (BitVec.ofNat 64 r2)))) rfl rfl (by intro x hx; go_simp; (first | done | exact orUT (BitVec.ofNat 64 r1) (BitVec.ofNat 64 r2) | exact congrArg _ (orUT (BitVec.ofNat 64 r1) (BitVec.ofNat 64 r2)) | (rw [orUT (BitVec.ofNat 64 r1) (BitVec.ofNat 64 r2)]; done) | (rw [orUT (BitVec.ofNat 64 r1) (BitVec.ofNat 64 r2)]; rfl))) ?_
       simp only [sA, sB]
       refine lm 12 8 rfl rfl rfl rfl ?_
       simp only [sA, sB]
       refine lm 13 9 rfl rfl rfl rfl ?_
       simp only [sA, sB]
       refine lv 14 (.int .u64 (tn ((BitVec.ofNat 64 r1) ^^^ (BitVec.ofNat 64 r2)))) rfl rfl (by intro x hx; go_simp; (first | done | exact xorUT (BitVec.ofNat 64 r1) (BitVec.ofNat 64 r2) | exact congrArg _ (xorUT (BitVec.ofNat 64 r1) (BitVec.ofNat 64 r2)) | (rw [xorUT (BitVec.ofNat 64 r1) (BitVec.ofNat 64 r2)]; done) | (rw [xorUT (BitVec.ofNat 64 r1) (BitVec.ofNat 64 r2)]; rfl))) ?_
       simp only [sA, sB]
       refine lv 15 (.agg #[.int .u64 (tn ((BitVec.ofNat 64 r1) + (BitVec.ofNat 64 r2))), .int .u64 (tn ((BitVec.ofNat 64 r1) - (BitVec.ofNat 64 r2))), .int .u64 (tn ((BitVec.ofNat 64 r1) &&& (BitVec.ofNat 64 r2))), .int .u64 (tn ((BitVec.ofNat 64 r1) ||| (BitVec.ofNat 64 r2))), .int .u64 (tn ((BitVec.ofNat 64 r1) ^^^ (BitVec.ofNat 64 r2)))]) rfl rfl (by intro x hx; go_simp; (first | done | exact rfl)) ?_
       simp only [sA, sB]
       refine lin_new (i := 16) rfl rfl (by rfl) [.int .u64 0, .int .u64 0, .int .u64 0, .int .u64 0, .int .u64 0] 32 (fun k => .pointer (some ⟨k, 0, none⟩)) [some (.int .u64 0), some (.int .u64 0), some (.int .u64 0), some (.int .u64 0), some (.int .u64 0)] (lessC_refl _) (by intro x hx; go_simp; (first | done | exact rfl)) (fun k3 => ?_)
       simp only [sA, sB, sC, sD]
       refine ls 17 4 0 [.int .u64 (tn ((BitVec.ofNat 64 r1) + (BitVec.ofNat 64 r2))), .int .u64 (tn ((BitVec.ofNat 64 r1) - (BitVec.ofNat 64 r2))), .int .u64 (tn ((BitVec.ofNat 64 r1) &&& (BitVec.ofNat 64 r2))), .int .u64 (tn ((BitVec.ofNat 64 r1) ||| (BitVec.ofNat 64 r2))), .int .u64 (tn ((BitVec.ofNat 64 r1) ^^^ (BitVec.ofNat 64 r2)))] rfl rfl rfl (by intro x hx; obtain ⟨_, z0, q0⟩ := hx.at1 4 0 rfl; obtain ⟨_, z1, q1⟩ := hx.at1 4 1 rfl; obtain ⟨_, z2, q2⟩ := hx.at1 4 2 rfl; obtain ⟨_, z3, q3⟩ := hx.at1 4 3 rfl; obtain ⟨_, z4, q4⟩ := hx.at1 4 4 rfl; go_simp; (first | done | rfl)) ?_
       simp only [Blk.putC, setM, sA, sB]
       clear HS
       refine ld fun W9 HS => ?_
       go_upto_region 12 with fail
       refine lnb HS.out rfl ?_
       refine lv 0 (.int .i64 0) rfl rfl (by intro x hx; go_simp; (first | done | exact rfl)) ?_
       simp only [sA, sB]
       clear HS
       refine ld fun W10 HS => ?_
       go_wp2
       refine loop_up 5 (fun k a W => Hid (∃ u3_48 u3_49 u3_50 u3_51 u3_52 u3_53 u3_54 u3_55 u3_56 u3_57 u3_58 u3_59 u3_60 u3_61 u3_62 u3_63 u3_64 u3_65 u3_66 u3_67 u3_68 u3_69 u3_70 u3_71 : Value, a = Act.mk [vU x0, vU x1, .pointer (some ⟨w.heap.size, 0, none⟩), .pointer (some ⟨w.heap.size + 1, 0, none⟩), .bool false, .pointer (some ⟨k1, 0, none⟩), .pointer (some ⟨k2, 0, none⟩), .int .i64 (((exRow x0 x1 (BitVec.ofNat 64 r1) (exAll x0 x1 r1) r2).n : Nat) : Int), .int .u64 (tn (BitVec.ofNat 64 r1)), .int .u64 (tn (BitVec.ofNat 64 r2)), .pointer (some ⟨k3, 0, none⟩), .int .i64 ((k : Nat) : Int), undef, undef, .int .u64 (tn (BitVec.ofNat 64 r1)), .bool true, u1_16, u1_17, .int .u64 (tn (BitVec.ofNat 64 r2)), .bool true, u2_20, u2_21, vU x0, .int .u64 (tn (BitVec.ofNat 64 r1)), .bool (tnIn x0 (BitVec.ofNat 64 r1)), .bool ((!(tnIn x0 (BitVec.ofNat 64 r1)))), .bool ((!(tnIn x0 (BitVec.ofNat 64 r1)))), cond (!(!(tnIn x0 (BitVec.ofNat 64 r1)))) (vU x1) undef, cond (!(!(tnIn x0 (BitVec.ofNat 64 r1)))) (.int .u64 (tn (BitVec.ofNat 64 r2))) undef, cond (!(!(tnIn x0 (BitVec.ofNat 64 r1)))) (.bool (tnIn x1 (BitVec.ofNat 64 r2))) undef, cond (!(!(tnIn x0 (BitVec.ofNat 64 r1)))) (.bool ((!(tnIn x1 (BitVec.ofNat 64 r2))))) undef, .bool false, .int .u64 (tn (BitVec.ofNat 64 r1)), .int .u64 (tn (BitVec.ofNat 64 r2)), .int .u64 (tn ((BitVec.ofNat 64 r1) + (BitVec.ofNat 64 r2))), .int .u64 (tn (BitVec.ofNat 64 r1)), .int .u64 (tn (BitVec.ofNat 64 r2)), .int .u64 (tn ((BitVec.ofNat 64 r1) - (BitVec.ofNat 64 r2))), .int .u64 (tn (BitVec.ofNat 64 r1)), .int .u64 (tn (BitVec.ofNat 64 r2)), .int .u64 (tn ((BitVec.ofNat 64 r1) &&& (BitVec.ofNat 64 r2))), .int .u64 (tn (BitVec.ofNat 64 r1)), .int .u64 (tn (BitVec.ofNat 64 r2)), .int .u64 (tn ((BitVec.ofNat 64 r1) ||| (BitVec.ofNat 64 r2))), .int .u64 (tn (BitVec.ofNat 64 r1)), .int .u64 (tn (BitVec.ofNat 64 r2)), .int .u64 (tn ((BitVec.ofNat 64 r1) ^^^ (BitVec.ofNat 64 r2))), .agg #[.int .u64 (tn ((BitVec.ofNat 64 r1) + (BitVec.ofNat 64 r2))), .int .u64 (tn ((BitVec.ofNat 64 r1) - (BitVec.ofNat 64 r2))), .int .u64 (tn ((BitVec.ofNat 64 r1) &&& (BitVec.ofNat 64 r2))), .int .u64 (tn ((BitVec.ofNat 64 r1) ||| (BitVec.ofNat 64 r2))), .int .u64 (tn ((BitVec.ofNat 64 r1) ^^^ (BitVec.ofNat 64 r2)))], u3_48, u3_49, u3_50, u3_51, u3_52, u3_53, u3_54, u3_55, u3_56, u3_57, u3_58, u3_59, u3_60, u3_61, u3_62, u3_63, u3_64, u3_65, u3_66, u3_67, u3_68, u3_69, u3_70, u3_71, u2_72, u2_73, undef, undef, undef, undef, undef, undef, undef, undef, undef, undef, undef, undef, undef, undef, undef, undef, undef, undef, undef, undef, undef, undef, undef, undef, undef, undef, undef, undef, undef, undef, undef, undef, undef, undef, undef, undef, undef, undef, undef, undef, undef, undef, undef, undef].toArray [] ∧ St w [⟨w.heap.size, [some (.int .u64 (tn (x0.lo))), some (.int .u64 (tn (x0.hi)))], 24⟩, ⟨w.heap.size + 1, [some (.int .u64 (tn (x1.lo))), some (.int .u64 (tn (x1.hi)))], 24⟩, ⟨k1, [some (.int .u64 (tn (exTo k 0 (exF (exRow x0 x1 (BitVec.ofNat 64 r1) (exAll x0 x1 r1) r2) (ex5 (BitVec.ofNat 64 r1) (BitVec.ofNat 64 r2))).c0 (exRow x0 x1 (BitVec.ofNat 64 r1) (exAll x0 x1 r1) r2).f.c0))), some (.int .u64 (tn (exTo k 1 (exF (exRow x0 x1 (BitVec.ofNat 64 r1) (exAll x0 x1 r1) r2) (ex5 (BitVec.ofNat 64 r1) (BitVec.ofNat 64 r2))).c1 (exRow x0 x1 (BitVec.ofNat 64 r1) (exAll x0 x1 r1) r2).f.c1))), some (.int .u64 (tn (exTo k 2 (exF (exRow x0 x1 (BitVec.ofNat 64 r1) (exAll x0 x1 r1) r2) (ex5 (BitVec.ofNat 64 r1) (BitVec.ofNat 64 r2))).c2 (exRow x0 x1 (BitVec.ofNat 64 r1) (exAll x0 x1 r1) r2).f.c2))), some (.int .u64 (tn (exTo k 3 (exF (exRow x0 x1 (BitVec.ofNat 64 r1) (exAll x0 x1 r1) r2) (ex5 (BitVec.ofNat 64 r1) (BitVec.ofNat 64 r2))).c3 (exRow x0 x1 (BitVec.ofNat 64 r1) (exAll x0 x1 r1) r2).f.c3))), some (.int .u64 (tn (exTo k 4 (exF (exRow x0 x1 (BitVec.ofNat 64 r1) (exAll x0 x1 r1) r2) (ex5 (BitVec.ofNat 64 r1) (BitVec.ofNat 64 r2))).c4 (exRow x0 x1 (BitVec.ofNat 64 r1) (exAll x0 x1 r1) r2).f.c4)))], 32⟩, ⟨k2, [some (.int .u64 (tn (exTo k 0 (exD (exRow x0 x1 (BitVec.ofNat 64 r1) (exAll x0 x1 r1) r2).d (ex5 (BitVec.ofNat 64 r1) (BitVec.ofNat 64 r2)) (exF (exRow x0 x1 (BitVec.ofNat 64 r1) (exAll x0 x1 r1) r2) (ex5 (BitVec.ofNat 64 r1) (BitVec.ofNat 64 r2)))).c0 (exRow x0 x1 (BitVec.ofNat 64 r1) (exAll x0 x1 r1) r2).d.c0))), some (.int .u64 (tn (exTo k 1 (exD (exRow x0 x1 (BitVec.ofNat 64 r1) (exAll x0 x1 r1) r2).d (ex5 (BitVec.ofNat 64 r1) (BitVec.ofNat 64 r2)) (exF (exRow x0 x1 (BitVec.ofNat 64 r1) (exAll x0 x1 r1) r2) (ex5 (BitVec.ofNat 64 r1) (BitVec.ofNat 64 r2)))).c1 (exRow x0 x1 (BitVec.ofNat 64 r1) (exAll x0 x1 r1) r2).d.c1))), some (.int .u64 (tn (exTo k 2 (exD (exRow x0 x1 (BitVec.ofNat 64 r1) (exAll x0 x1 r1) r2).d (ex5 (BitVec.ofNat 64 r1) (BitVec.ofNat 64 r2)) (exF (exRow x0 x1 (BitVec.ofNat 64 r1) (exAll x0 x1 r1) r2) (ex5 (BitVec.ofNat 64 r1) (BitVec.ofNat 64 r2)))).c2 (exRow x0 x1 (BitVec.ofNat 64 r1) (exAll x0 x1 r1) r2).d.c2))), some (.int .u64 (tn (exTo k 3 (exD (exRow x0 x1 (BitVec.ofNat 64 r1) (exAll x0 x1 r1) r2).d (ex5 (BitVec.ofNat 64 r1) (BitVec.ofNat 64 r2)) (exF (exRow x0 x1 (BitVec.ofNat 64 r1) (exAll x0 x1 r1) r2) (ex5 (BitVec.ofNat 64 r1) (BitVec.ofNat 64 r2)))).c3 (exRow x0 x1 (BitVec.ofNat 64 r1) (exAll x0 x1 r1) r2).d.c3))), some (.int .u64 (tn (exTo k 4 (exD (exRow x0 x1 (BitVec.ofNat 64 r1) (exAll x0 x1 r1) r2).d (ex5 (BitVec.ofNat 64 r1) (BitVec.ofNat 64 r2)) (exF (exRow x0 x1 (BitVec.ofNat 64 r1) (exAll x0 x1 r1) r2) (ex5 (BitVec.ofNat 64 r1) (BitVec.ofNat 64 r2)))).c4 (exRow x0 x1 (BitVec.ofNat 64 r1) (exAll x0 x1 r1) r2).d.c4)))], 32⟩, ⟨k3, [some (.int .u64 (tn ((BitVec.ofNat 64 r1) + (BitVec.ofNat 64 r2)))), some (.int .u64 (tn ((BitVec.ofNat 64 r1) - (BitVec.ofNat 64 r2)))), some (.int .u64 (tn ((BitVec.ofNat 64 r1) &&& (BitVec.ofNat 64 r2)))), some (.int .u64 (tn ((BitVec.ofNat 64 r1) ||| (BitVec.ofNat 64 r2)))), some (.int .u64 (tn ((BitVec.ofNat 64 r1) ^^^ (BitVec.ofNat 64 r2))))], 32⟩] W)) (hid ⟨(u2_48), (u2_49), (u2_50), (u2_51), (u2_52), (u2_53), (u2_54), (u2_55), (u2_56), (u2_57), (u2_58), (u2_59), (u2_60), (u2_61), (u2_62), (u2_63), (u2_64), (u2_65), (u2_66), (u2_67), (u2_68), (u2_69), (u2_70), (u2_71), rfl, HS.out⟩) (fun r3 a W hr hR => ?_)
       obtain ⟨u3_48, u3_49, u3_50, u3_51, u3_52, u3_53, u3_54, u3_55, u3_56, u3_57, u3_58, u3_59, u3_60, u3_61, u3_62, u3_63, u3_64, u3_65, u3_66, u3_67, u3_68, u3_69, u3_70, u3_71, rfl, hS⟩ := hR.out
       replace HS := hid hS
       clear hS hR
       by_cases hlt3 : r3 < 5
       · have hc : r3 = 0 ∨ r3 = 1 ∨ r3 = 2 ∨ r3 = 3 ∨ r3 = 4 := by omega
         rcases hc with rfl | rfl | rfl | rfl | rfl
         · rw [show ((0 : Nat) : Int) = 0 from rfl]
           go_upto_region 13 with fail
           refine lnb HS.out rfl ?_
           refine lm 0 11 rfl rfl rfl rfl ?_
           simp only [sA, sB]
           refine lv 1 (.bool true) rfl rfl (by intro x hx; go_simp; (first | done | exact rfl)) ?_
           simp only [sA, sB]
           clear HS
           refine ld fun W11 HS => ?_
           go_upto_region 15 with fail
           refine lnb HS.out rfl ?_
           refine lm 0 7 rfl rfl rfl rfl ?_
           simp only [sA, sB]
           refine lv 1 (.bool ((decide (((exRow x0 x1 (BitVec.ofNat 64 r1) (exAll x0 x1 r1) r2).n) = 0)))) rfl rfl (by intro x hx; go_simp; (first | done | exact decide_eq_decide.2 (by omega) | omega | (trace_state; sorry))) ?_
           simp only [sA, sB]
           clear HS
           refine ld fun W12 HS => ?_
           cases h2 : ((decide (((exRow x0 x1 (BitVec.ofNat 64 r1) (exAll x0 x1 r1) r2).n) = 0)))
           ·have hd2 := of_decide_eq_false h2; replace h2 := hid h2
            go_upto_region 17 with fail
            refine wkb (fun j => [13].contains j) 14 HS.out.drew rfl ?_
            refine wp_ 0 (.int .i64 0) rfl rfl (by intro x hx; go_simp; (first | done | exact rfl)) ?_
            simp only [sA, sB]
            refine wp_ 1 (.int .i64 0) rfl rfl (by intro x hx; go_simp; (first | done | exact rfl)) ?_
            simp only [sA, sB]
            refine wp_ 2 (.pointer (some ⟨k2, 0, none⟩)) rfl rfl (by intro x hx; go_simp; (first | done | exact rfl)) ?_
            simp only [sA, sB]
            refine wv 3 (.int .u64 (tn (exTo 0 0 (exD (exRow x0 x1 (BitVec.ofNat 64 r1) (exAll x0 x1 r1) r2).d (ex5 (BitVec.ofNat 64 r1) (BitVec.ofNat 64 r2)) (exF (exRow x0 x1 (BitVec.ofNat 64 r1) (exAll x0 x1 r1) r2) (ex5 (BitVec.ofNat 64 r1) (BitVec.ofNat 64 r2)))).c0 (exRow x0 x1 (BitVec.ofNat 64 r1) (exAll x0 x1 r1) r2).d.c0))) rfl rfl (by intro x hx; have f0 := hx.load 3 0 rfl rfl; go_simp; (first | done | exact rfl)) ?_
            simp only [sA, sB]
            refine wp_ 4 (.int .i64 0) rfl rfl (by intro x hx; go_simp; (first | done | exact rfl)) ?_
            simp only [sA, sB]
            refine wp_ 5 (.pointer (some ⟨k3, 0, none⟩)) rfl rfl (by intro x hx; go_simp; (first | done | exact rfl)) ?_
            simp only [sA, sB]
            refine wv 6 (.int .u64 (tn ((BitVec.ofNat 64 r1) + (BitVec.ofNat 64 r2)))) rfl rfl (by intro x hx; have f0 := hx.load 4 0 rfl rfl; go_simp; (first | done | exact rfl)) ?_
            simp only [sA, sB]
            refine wp_ 7 (.int .i64 0) rfl rfl (by intro x hx; go_simp; (first | done | exact rfl)) ?_
            simp only [sA, sB]
            refine wp_ 8 (.pointer (some ⟨k1, 0, none⟩)) rfl rfl (by intro x hx; go_simp; (first | done | exact rfl)) ?_
            simp only [sA, sB]
            refine wv 9 (.int .u64 (tn (exTo 0 0 (exF (exRow x0 x1 (BitVec.ofNat 64 r1) (exAll x0 x1 r1) r2) (ex5 (BitVec.ofNat 64 r1) (BitVec.ofNat 64 r2))).c0 (exRow x0 x1 (BitVec.ofNat 64 r1) (exAll x0 x1 r1) r2).f.c0))) rfl rfl (by intro x hx; have f0 := hx.load 2 0 rfl rfl; go_simp; (first | done | exact rfl)) ?_
            simp only [sA, sB]
            refine wp_ 10 (.int .u64 (tn (((BitVec.ofNat 64 r1) + (BitVec.ofNat 64 r2)) ^^^ (exTo 0 0 (exF (exRow x0 x1 (BitVec.ofNat 64 r1) (exAll x0 x1 r1) r2) (ex5 (BitVec.ofNat 64 r1) (BitVec.ofNat 64 r2))).c0 (exRow x0 x1 (BitVec.ofNat 64 r1) (exAll x0 x1 r1) r2).f.c0)))) rfl rfl (by intro x hx; go_simp; (first | done | exact xorUT ((BitVec.ofNat 64 r1) + (BitVec.ofNat 64 r2)) (exTo 0 0 (exF (exRow x0 x1 (BitVec.ofNat 64 r1) (exAll x0 x1 r1) r2) (ex5 (BitVec.ofNat 64 r1) (BitVec.ofNat 64 r2))).c0 (exRow x0 x1 (BitVec.ofNat 64 r1) (exAll x0 x1 r1) r2).f.c0) | exact congrArg _ (xorUT ((BitVec.ofNat 64 r1) + (BitVec.ofNat 64 r2)) (exTo 0 0 (exF (exRow x0 x1 (BitVec.ofNat 64 r1) (exAll x0 x1 r1) r2) (ex5 (BitVec.ofNat 64 r1) (BitVec.ofNat 64 r2))).c0 (exRow x0 x1 (BitVec.ofNat 64 r1) (exAll x0 x1 r1) r2).f.c0)) | (rw [xorUT ((BitVec.ofNat 64 r1) + (BitVec.ofNat 64 r2)) (exTo 0 0 (exF (exRow x0 x1 (BitVec.ofNat 64 r1) (exAll x0 x1 r1) r2) (ex5 (BitVec.ofNat 64 r1) (BitVec.ofNat 64 r2))).c0 (exRow x0 x1 (BitVec.ofNat 64 r1) (exAll x0 x1 r1) r2).f.c0)]; done) | (rw [xorUT ((BitVec.ofNat 64 r1) + (BitVec.ofNat 64 r2)) (exTo 0 0 (exF (exRow x0 x1 (BitVec.ofNat 64 r1) (exAll x0 x1 r1) r2) (ex5 (BitVec.ofNat 64 r1) (BitVec.ofNat 64 r2))).c0 (exRow x0 x1 (BitVec.ofNat 64 r1) (exAll x0 x1 r1) r2).f.c0)]; rfl))) ?_
            simp only [sA, sB]
            refine wp_ 11 (.int .u64 (tn ((exTo 0 0 (exD (exRow x0 x1 (BitVec.ofNat 64 r1) (exAll x0 x1 r1) r2).d (ex5 (BitVec.ofNat 64 r1) (BitVec.ofNat 64 r2)) (exF (exRow x0 x1 (BitVec.ofNat 64 r1) (exAll x0 x1 r1) r2) (ex5 (BitVec.ofNat 64 r1) (BitVec.ofNat 64 r2)))).c0 (exRow x0 x1 (BitVec.ofNat 64 r1) (exAll x0 x1 r1) r2).d.c0) ||| (((BitVec.ofNat 64 r1) + (BitVec.ofNat 64 r2)) ^^^ (exTo 0 0 (exF (exRow x0 x1 (BitVec.ofNat 64 r1) (exAll x0 x1 r1) r2) (ex5 (BitVec.ofNat 64 r1) (BitVec.ofNat 64 r2))).c0 (exRow x0 x1 (BitVec.ofNat 64 r1) (exAll x0 x1 r1) r2).f.c0))))) rfl rfl (by intro x hx; go_simp; (first | done | exact orUT (exTo 0 0 (exD (exRow x0 x1 (BitVec.ofNat 64 r1) (exAll x0 x1 r1) r2).d (ex5 (BitVec.ofNat 64 r1) (BitVec.ofNat 64 r2)) (exF (exRow x0 x1 (BitVec.ofNat 64 r1) (exAll x0 x1 r1) r2) (ex5 (BitVec.ofNat 64 r1) (BitVec.ofNat 64 r2)))).c0 (exRow x0 x1 (BitVec.ofNat 64 r1) (exAll x0 x1 r1) r2).d.c0) (((BitVec.ofNat 64 r1) + (BitVec.ofNat 64 r2)) ^^^ (exTo 0 0 (exF (exRow x0 x1 (BitVec.ofNat 64 r1) (exAll x0 x1 r1) r2) (ex5 (BitVec.ofNat 64 r1) (BitVec.ofNat 64 r2))).c0 (exRow x0 x1 (BitVec.ofNat 64 r1) (exAll x0 x1 r1) r2).f.c0)) | exact congrArg _ (orUT (exTo 0 0 (exD (exRow x0 x1 (BitVec.ofNat 64 r1) (exAll x0 x1 r1) r2).d (ex5 (BitVec.ofNat 64 r1) (BitVec.ofNat 64 r2)) (exF (exRow x0 x1 (BitVec.ofNat 64 r1) (exAll x0 x1 r1) r2) (ex5 (BitVec.ofNat 64 r1) (BitVec.ofNat 64 r2)))).c0 (exRow x0 x1 (BitVec.ofNat 64 r1) (exAll x0 x1 r1) r2).d.c0) (((BitVec.ofNat 64 r1) + (BitVec.ofNat 64 r2)) ^^^ (exTo 0 0 (exF (exRow x0 x1 (BitVec.ofNat 64 r1) (exAll x0 x1 r1) r2) (ex5 (BitVec.ofNat 64 r1) (BitVec.ofNat 64 r2))).c0 (exRow x0 x1 (BitVec.ofNat 64 r1) (exAll x0 x1 r1) r2).f.c0))) | (rw [orUT (exTo 0 0 (exD (exRow x0 x1 (BitVec.ofNat 64 r1) (exAll x0 x1 r1) r2).d (ex5 (BitVec.ofNat 64 r1) (BitVec.ofNat 64 r2)) (exF (exRow x0 x1 (BitVec.ofNat 64 r1) (exAll x0 x1 r1) r2) (ex5 (BitVec.ofNat 64 r1) (BitVec.ofNat 64 r2)))).c0 (exRow x0 x1 (BitVec.ofNat 64 r1) (exAll x0 x1 r1) r2).d.c0) (((BitVec.ofNat 64 r1) + (BitVec.ofNat 64 r2)) ^^^ (exTo 0 0 (exF (exRow x0 x1 (BitVec.ofNat 64 r1) (exAll x0 x1 r1) r2) (ex5 (BitVec.ofNat 64 r1) (BitVec.ofNat 64 r2))).c0 (exRow x0 x1 (BitVec.ofNat 64 r1) (exAll x0 x1 r1) r2).f.c0))]; done) | (rw [orUT (exTo 0 0 (exD (exRow x0 x1 (BitVec.ofNat 64 r1) (exAll x0 x1 r1) r2).d (ex5 (BitVec.ofNat 64 r1) (BitVec.ofNat 64 r2)) (exF (exRow x0 x1 (BitVec.ofNat 64 r1) (exAll x0 x1 r1) r2) (ex5 (BitVec.ofNat 64 r1) (BitVec.ofNat 64 r2)))).c0 (exRow x0 x1 (BitVec.ofNat 64 r1) (exAll x0 x1 r1) r2).d.c0) (((BitVec.ofNat 64 r1) + (BitVec.ofNat 64 r2)) ^^^ (exTo 0 0 (exF (exRow x0 x1 (BitVec.ofNat 64 r1) (exAll x0 x1 r1) r2) (ex5 (BitVec.ofNat 64 r1) (BitVec.ofNat 64 r2))).c0 (exRow x0 x1 (BitVec.ofNat 64 r1) (exAll x0 x1 r1) r2).f.c0))]; rfl))) ?_
            simp only [sA, sB]
            refine wp_ 12 (.pointer (some ⟨k2, 0, none⟩)) rfl rfl (by intro x hx; go_simp; (first | done | exact rfl)) ?_
            simp only [sA, sB]
            refine ws 13 3 0 [.int .u64 (tn ((exTo 0 0 (exD (exRow x0 x1 (BitVec.ofNat 64 r1) (exAll x0 x1 r1) r2).d (ex5 (BitVec.ofNat 64 r1) (BitVec.ofNat 64 r2)) (exF (exRow x0 x1 (BitVec.ofNat 64 r1) (exAll x0 x1 r1) r2) (ex5 (BitVec.ofNat 64 r1) (BitVec.ofNat 64 r2)))).c0 (exRow x0 x1 (BitVec.ofNat 64 r1) (exAll x0 x1 r1) r2).d.c0) ||| (((BitVec.ofNat 64 r1) + (BitVec.ofNat 64 r2)) ^^^ (exTo 0 0 (exF (exRow x0 x1 (BitVec.ofNat 64 r1) (exAll x0 x1 r1) r2) (ex5 (BitVec.ofNat 64 r1) (BitVec.ofNat 64 r2))).c0 (exRow x0 x1 (BitVec.ofNat 64 r1) (exAll x0 x1 r1) r2).f.c0))))] rfl rfl rfl (by intro x hx; obtain ⟨_, z0, q0⟩ := hx.at1 3 0 rfl; go_simp; (first | done | rfl)) ?_
            simp only [Blk.putC, setM, sA, sB]
            clear HS
            refine wd fun W13 HS => ?_
            go_upto_region 14 with fail
            refine lnb HS.out rfl ?_
            refine lm 0 11 rfl rfl rfl rfl ?_
            simp only [sA, sB]
            refine lv 1 (.int .i64 1) rfl rfl (by intro x hx; go_simp; (first | done | exact rfl)) ?_
            simp only [sA, sB]
            refine la 2 51 rfl rfl rfl rfl ?_
            simp only [sA, sB]
            clear HS
            refine ld fun W14 HS => ?_
            go_wp2
            exact ⟨hlt3, hid ⟨_, _, _, _, _, _, _, _, _, _, _, _, _, _, _, _, _, _, _, _, _, _, _, _, rfl, (by have h := HS.out; rw [exF_f (l := (ex5 (BitVec.ofNat 64 r1) (BitVec.ofNat 64 r2))) h2.out] at h ⊢; exact h)⟩⟩
           ·have hd2 := of_decide_eq_true h2; replace h2 := hid h2
            go_upto_region 16 with fail
            refine lnb HS.out rfl ?_
            refine lm 0 11 rfl rfl rfl rfl ?_
            simp only [sA, sB]
            refine lm 1 11 rfl rfl rfl rfl ?_
            simp only [sA, sB]
            refine lv 2 (.pointer (some ⟨k3, 0, none⟩)) rfl rfl (by intro x hx; go_simp; (first | done | exact rfl)) ?_
            simp only [sA, sB]
            refine lv 3 (.int .u64 (tn ((BitVec.ofNat 64 r1) + (BitVec.ofNat 64 r2)))) rfl rfl (by intro x hx; have f0 := hx.load 4 0 rfl rfl; go_simp; (first | done | exact rfl)) ?_
            simp only [sA, sB]
            refine lv 4 (.pointer (some ⟨k1, 0, none⟩)) rfl rfl (by intro x hx; go_simp; (first | done | exact rfl)) ?_
            simp only [sA, sB]
            refine ls 5 2 0 [.int .u64 (tn ((BitVec.ofNat 64 r1) + (BitVec.ofNat 64 r2)))] rfl rfl rfl (by intro x hx; obtain ⟨_, z0, q0⟩ := hx.at1 2 0 rfl; go_simp; (first | done | rfl)) ?_
            simp only [Blk.putC, setM, sA, sB]
            clear HS
            refine ld fun W13 HS => ?_
            go_upto_region 17 with fail
            refine wkb (fun j => [13].contains j) 14 HS.out.drew rfl ?_
            refine wp_ 0 (.int .i64 0) rfl rfl (by intro x hx; go_simp; (first | done | exact rfl)) ?_
            simp only [sA, sB]
            refine wp_ 1 (.int .i64 0) rfl rfl (by intro x hx; go_simp; (first | done | exact rfl)) ?_
            simp only [sA, sB]
            refine wp_ 2 (.pointer (some ⟨k2, 0, none⟩)) rfl rfl (by intro x hx; go_simp; (first | done | exact rfl)) ?_
            simp only [sA, sB]
            refine wv 3 (.int .u64 (tn (exTo 0 0 (exD (exRow x0 x1 (BitVec.ofNat 64 r1) (exAll x0 x1 r1) r2).d (ex5 (BitVec.ofNat 64 r1) (BitVec.ofNat 64 r2)) (exF (exRow x0 x1 (BitVec.ofNat 64 r1) (exAll x0 x1 r1) r2) (ex5 (BitVec.ofNat 64 r1) (BitVec.ofNat 64 r2)))).c0 (exRow x0 x1 (BitVec.ofNat 64 r1) (exAll x0 x1 r1) r2).d.c0))) rfl rfl (by intro x hx; have f0 := hx.load 3 0 rfl rfl; go_simp; (first | done | exact rfl)) ?_
            simp only [sA, sB]
            refine wp_ 4 (.int .i64 0) rfl rfl (by intro x hx; go_simp; (first | done | exact rfl)) ?_
            simp only [sA, sB]
            refine wp_ 5 (.pointer (some ⟨k3, 0, none⟩)) rfl rfl (by intro x hx; go_simp; (first | done | exact rfl)) ?_
            simp only [sA, sB]
            refine wv 6 (.int .u64 (tn ((BitVec.ofNat 64 r1) + (BitVec.ofNat 64 r2)))) rfl rfl (by intro x hx; have f0 := hx.load 4 0 rfl rfl; go_simp; (first | done | exact rfl)) ?_
            simp only [sA, sB]
            refine wp_ 7 (.int .i64 0) rfl rfl (by intro x hx; go_simp; (first | done | exact rfl)) ?_
            simp only [sA, sB]
            refine wp_ 8 (.pointer (some ⟨k1, 0, none⟩)) rfl rfl (by intro x hx; go_simp; (first | done | exact rfl)) ?_
            simp only [sA, sB]
            refine wv 9 (.int .u64 (tn ((BitVec.ofNat 64 r1) + (BitVec.ofNat 64 r2)))) rfl rfl (by intro x hx; have f0 := hx.load 2 0 rfl rfl; go_simp; (first | done | exact rfl)) ?_
            simp only [sA, sB]
            refine wp_ 10 (.int .u64 (tn (0#64))) rfl rfl (by intro x hx; go_simp; (first | done | exact xorSelfT ((BitVec.ofNat 64 r1) + (BitVec.ofNat 64 r2)) | exact congrArg _ (xorSelfT ((BitVec.ofNat 64 r1) + (BitVec.ofNat 64 r2))) | (rw [xorSelfT ((BitVec.ofNat 64 r1) + (BitVec.ofNat 64 r2))]; done) | (rw [xorSelfT ((BitVec.ofNat 64 r1) + (BitVec.ofNat 64 r2))]; rfl))) ?_
            simp only [sA, sB]
            refine wp_ 11 (.int .u64 (tn ((exTo 0 0 (exD (exRow x0 x1 (BitVec.ofNat 64 r1) (exAll x0 x1 r1) r2).d (ex5 (BitVec.ofNat 64 r1) (BitVec.ofNat 64 r2)) (exF (exRow x0 x1 (BitVec.ofNat 64 r1) (exAll x0 x1 r1) r2) (ex5 (BitVec.ofNat 64 r1) (BitVec.ofNat 64 r2)))).c0 (exRow x0 x1 (BitVec.ofNat 64 r1) (exAll x0 x1 r1) r2).d.c0)))) rfl rfl (by intro x hx; go_simp; (first | done | exact orZeroT (exTo 0 0 (exD (exRow x0 x1 (BitVec.ofNat 64 r1) (exAll x0 x1 r1) r2).d (ex5 (BitVec.ofNat 64 r1) (BitVec.ofNat 64 r2)) (exF (exRow x0 x1 (BitVec.ofNat 64 r1) (exAll x0 x1 r1) r2) (ex5 (BitVec.ofNat 64 r1) (BitVec.ofNat 64 r2)))).c0 (exRow x0 x1 (BitVec.ofNat 64 r1) (exAll x0 x1 r1) r2).d.c0) | exact congrArg _ (orZeroT (exTo 0 0 (exD (exRow x0 x1 (BitVec.ofNat 64 r1) (exAll x0 x1 r1) r2).d (ex5 (BitVec.ofNat 64 r1) (BitVec.ofNat 64 r2)) (exF (exRow x0 x1 (BitVec.ofNat 64 r1) (exAll x0 x1 r1) r2) (ex5 (BitVec.ofNat 64 r1) (BitVec.ofNat 64 r2)))).c0 (exRow x0 x1 (BitVec.ofNat 64 r1) (exAll x0 x1 r1) r2).d.c0)) | (rw [orZeroT (exTo 0 0 (exD (exRow x0 x1 (BitVec.ofNat 64 r1) (exAll x0 x1 r1) r2).d (ex5 (BitVec.ofNat 64 r1) (BitVec.ofNat 64 r2)) (exF (exRow x0 x1 (BitVec.ofNat 64 r1) (exAll x0 x1 r1) r2) (ex5 (BitVec.ofNat 64 r1) (BitVec.ofNat 64 r2)))).c0 (exRow x0 x1 (BitVec.ofNat 64 r1) (exAll x0 x1 r1) r2).d.c0)]; done) | (rw [orZeroT (exTo 0 0 (exD (exRow x0 x1 (BitVec.ofNat 64 r1) (exAll x0 x1 r1) r2).d (ex5 (BitVec.ofNat 64 r1) (BitVec.ofNat 64 r2)) (exF (exRow x0 x1 (BitVec.ofNat 64 r1) (exAll x0 x1 r1) r2) (ex5 (BitVec.ofNat 64 r1) (BitVec.ofNat 64 r2)))).c0 (exRow x0 x1 (BitVec.ofNat 64 r1) (exAll x0 x1 r1) r2).d.c0)]; rfl))) ?_
            simp only [sA, sB]
            refine wp_ 12 (.pointer (some ⟨k2, 0, none⟩)) rfl rfl (by intro x hx; go_simp; (first | done | exact rfl)) ?_
            simp only [sA, sB]
            refine ws 13 3 0 [.int .u64 (tn ((exTo 0 0 (exD (exRow x0 x1 (BitVec.ofNat 64 r1) (exAll x0 x1 r1) r2).d (ex5 (BitVec.ofNat 64 r1) (BitVec.ofNat 64 r2)) (exF (exRow x0 x1 (BitVec.ofNat 64 r1) (exAll x0 x1 r1) r2) (ex5 (BitVec.ofNat 64 r1) (BitVec.ofNat 64 r2)))).c0 (exRow x0 x1 (BitVec.ofNat 64 r1) (exAll x0 x1 r1) r2).d.c0)))] rfl rfl rfl (by intro x hx; obtain ⟨_, z0, q0⟩ := hx.at1 3 0 rfl; go_simp; (first | done | rfl)) ?_
            simp only [Blk.putC, setM, sA, sB]
            clear HS
            refine wd fun W14 HS => ?_
            go_upto_region 14 with fail
            refine lnb HS.out rfl ?_
            refine lm 0 11 rfl rfl rfl rfl ?_
            simp only [sA, sB]
            refine lv 1 (.int .i64 1) rfl rfl (by intro x hx; go_simp; (first | done | exact rfl)) ?_
            simp only [sA, sB]
            refine la 2 51 rfl rfl rfl rfl ?_
            simp only [sA, sB]
            clear HS
            refine ld fun W15 HS => ?_
            go_wp2
            exact ⟨hlt3, hid ⟨_, _, _, _, _, _, _, _, _, _, _, _, _, _, _, _, _, _, _, _, _, _, _, _, rfl, (by have h := HS.out; rw [exF_t (l := (ex5 (BitVec.ofNat 64 r1) (BitVec.ofNat 64 r2))) h2.out, exD_same] at h ⊢; exact h)⟩⟩
         · rw [show ((1 : Nat) : Int) = 1 from rfl]
           go_upto_region 13 with fail
           refine lnb HS.out rfl ?_
           refine lm 0 11 rfl rfl rfl rfl ?_
           simp only [sA, sB]
           refine lv 1 (.bool true) rfl rfl (by intro x hx; go_simp; (first | done | exact rfl)) ?_
           simp only [sA, sB]
           clear HS
           refine ld fun W11 HS => ?_
           go_upto_region 15 with fail
           refine lnb HS.out rfl ?_
           refine lm 0 7 rfl rfl rfl rfl ?_
           simp only [sA, sB]
           refine lv 1 (.bool ((decide (((exRow x0 x1 (BitVec.ofNat 64 r1) (exAll x0 x1 r1) r2).n) = 0)))) rfl rfl (by intro x hx; go_simp; (first | done | exact decide_eq_decide.2 (by omega) | omega | (trace_state; sorry))) ?_
           simp only [sA, sB]
           clear HS
           refine ld fun W12 HS => ?_
           cases h2 : ((decide (((exRow x0 x1 (BitVec.ofNat 64 r1) (exAll x0 x1 r1) r2).n) = 0)))
           ·have hd2 := of_decide_eq_false h2; replace h2 := hid h2
            go_upto_region 17 with fail
            refine wkb (fun j => [13].contains j) 14 HS.out.drew rfl ?_
            refine wp_ 0 (.int .i64 1) rfl rfl (by intro x hx; go_simp; (first | done | exact rfl)) ?_
            simp only [sA, sB]
            refine wp_ 1 (.int .i64 1) rfl rfl (by intro x hx; go_simp; (first | done | exact rfl)) ?_
            simp only [sA, sB]
            refine wp_ 2 (.pointer (some ⟨k2, 1, none⟩)) rfl rfl (by intro x hx; go_simp; (first | done | exact rfl)) ?_
            simp only [sA, sB]
            refine wv 3 (.int .u64 (tn (exTo 1 1 (exD (exRow x0 x1 (BitVec.ofNat 64 r1) (exAll x0 x1 r1) r2).d (ex5 (BitVec.ofNat 64 r1) (BitVec.ofNat 64 r2)) (exF (exRow x0 x1 (BitVec.ofNat 64 r1) (exAll x0 x1 r1) r2) (ex5 (BitVec.ofNat 64 r1) (BitVec.ofNat 64 r2)))).c1 (exRow x0 x1 (BitVec.ofNat 64 r1) (exAll x0 x1 r1) r2).d.c1))) rfl rfl (by intro x hx; have f0 := hx.load 3 1 rfl rfl; go_simp; (first | done | exact rfl)) ?_
            simp only [sA, sB]
            refine wp_ 4 (.int .i64 1) rfl rfl (by intro x hx; go_simp; (first | done | exact rfl)) ?_
            simp only [sA, sB]
            refine wp_ 5 (.pointer (some ⟨k3, 1, none⟩)) rfl rfl (by intro x hx; go_simp; (first | done | exact rfl)) ?_
            simp only [sA, sB]
            refine wv 6 (.int .u64 (tn ((BitVec.ofNat 64 r1) - (BitVec.ofNat 64 r2)))) rfl rfl (by intro x hx; have f0 := hx.load 4 1 rfl rfl; go_simp; (first | done | exact rfl)) ?_
            simp only [sA, sB]
            refine wp_ 7 (.int .i64 1) rfl rfl (by intro x hx; go_simp; (first | done | exact rfl)) ?_
            simp only [sA, sB]
            refine wp_ 8 (.pointer (some ⟨k1, 1, none⟩)) rfl rfl (by intro x hx; go_simp; (first | done | exact rfl)) ?_
            simp only [sA, sB]
            refine wv 9 (.int .u64 (tn (exTo 1 1 (exF (exRow x0 x1 (BitVec.ofNat 64 r1) (exAll x0 x1 r1) r2) (ex5 (BitVec.ofNat 64 r1) (BitVec.ofNat 64 r2))).c1 (exRow x0 x1 (BitVec.ofNat 64 r1) (exAll x0 x1 r1) r2).f.c1))) rfl rfl (by intro x hx; have f0 := hx.load 2 1 rfl rfl; go_simp; (first | done | exact rfl)) ?_
            simp only [sA, sB]
            refine wp_ 10 (.int .u64 (tn (((BitVec.ofNat 64 r1) - (BitVec.ofNat 64 r2)) ^^^ (exTo 1 1 (exF (exRow x0 x1 (BitVec.ofNat 64 r1) (exAll x0 x1 r1) r2) (ex5 (BitVec.ofNat 64 r1) (BitVec.ofNat 64 r2))).c1 (exRow x0 x1 (BitVec.ofNat 64 r1) (exAll x0 x1 r1) r2).f.c1)))) rfl rfl (by intro x hx; go_simp; (first | done | exact xorUT ((BitVec.ofNat 64 r1) - (BitVec.ofNat 64 r2)) (exTo 1 1 (exF (exRow x0 x1 (BitVec.ofNat 64 r1) (exAll x0 x1 r1) r2) (ex5 (BitVec.ofNat 64 r1) (BitVec.ofNat 64 r2))).c1 (exRow x0 x1 (BitVec.ofNat 64 r1) (exAll x0 x1 r1) r2).f.c1) | exact congrArg _ (xorUT ((BitVec.ofNat 64 r1) - (BitVec.ofNat 64 r2)) (exTo 1 1 (exF (exRow x0 x1 (BitVec.ofNat 64 r1) (exAll x0 x1 r1) r2) (ex5 (BitVec.ofNat 64 r1) (BitVec.ofNat 64 r2))).c1 (exRow x0 x1 (BitVec.ofNat 64 r1) (exAll x0 x1 r1) r2).f.c1)) | (rw [xorUT ((BitVec.ofNat 64 r1) - (BitVec.ofNat 64 r2)) (exTo 1 1 (exF (exRow x0 x1 (BitVec.ofNat 64 r1) (exAll x0 x1 r1) r2) (ex5 (BitVec.ofNat 64 r1) (BitVec.ofNat 64 r2))).c1 (exRow x0 x1 (BitVec.ofNat 64 r1) (exAll x0 x1 r1) r2).f.c1)]; done) | (rw [xorUT ((BitVec.ofNat 64 r1) - (BitVec.ofNat 64 r2)) (exTo 1 1 (exF (exRow x0 x1 (BitVec.ofNat 64 r1) (exAll x0 x1 r1) r2) (ex5 (BitVec.ofNat 64 r1) (BitVec.ofNat 64 r2))).c1 (exRow x0 x1 (BitVec.ofNat 64 r1) (exAll x0 x1 r1) r2).f.c1)]; rfl))) ?_
            simp only [sA, sB]
            refine wp_ 11 (.int .u64 (tn ((exTo 1 1 (exD (exRow x0 x1 (BitVec.ofNat 64 r1) (exAll x0 x1 r1) r2).d (ex5 (BitVec.ofNat 64 r1) (BitVec.ofNat 64 r2)) (exF (exRow x0 x1 (BitVec.ofNat 64 r1) (exAll x0 x1 r1) r2) (ex5 (BitVec.ofNat 64 r1) (BitVec.ofNat 64 r2)))).c1 (exRow x0 x1 (BitVec.ofNat 64 r1) (exAll x0 x1 r1) r2).d.c1) ||| (((BitVec.ofNat 64 r1) - (BitVec.ofNat 64 r2)) ^^^ (exTo 1 1 (exF (exRow x0 x1 (BitVec.ofNat 64 r1) (exAll x0 x1 r1) r2) (ex5 (BitVec.ofNat 64 r1) (BitVec.ofNat 64 r2))).c1 (exRow x0 x1 (BitVec.ofNat 64 r1) (exAll x0 x1 r1) r2).f.c1))))) rfl rfl (by intro x hx; go_simp; (first | done | exact orUT (exTo 1 1 (exD (exRow x0 x1 (BitVec.ofNat 64 r1) (exAll x0 x1 r1) r2).d (ex5 (BitVec.ofNat 64 r1) (BitVec.ofNat 64 r2)) (exF (exRow x0 x1 (BitVec.ofNat 64 r1) (exAll x0 x1 r1) r2) (ex5 (BitVec.ofNat 64 r1) (BitVec.ofNat 64 r2)))).c1 (exRow x0 x1 (BitVec.ofNat 64 r1) (exAll x0 x1 r1) r2).d.c1) (((BitVec.ofNat 64 r1) - (BitVec.ofNat 64 r2)) ^^^ (exTo 1 1 (exF (exRow x0 x1 (BitVec.ofNat 64 r1) (exAll x0 x1 r1) r2) (ex5 (BitVec.ofNat 64 r1) (BitVec.ofNat 64 r2))).c1 (exRow x0 x1 (BitVec.ofNat 64 r1) (exAll x0 x1 r1) r2).f.c1)) | exact congrArg _ (orUT (exTo 1 1 (exD (exRow x0 x1 (BitVec.ofNat 64 r1) (exAll x0 x1 r1) r2).d (ex5 (BitVec.ofNat 64 r1) (BitVec.ofNat 64 r2)) (exF (exRow x0 x1 (BitVec.ofNat 64 r1) (exAll x0 x1 r1) r2) (ex5 (BitVec.ofNat 64 r1) (BitVec.ofNat 64 r2)))).c1 (exRow x0 x1 (BitVec.ofNat 64 r1) (exAll x0 x1 r1) r2).d.c1) (((BitVec.ofNat 64 r1) - (BitVec.ofNat 64 r2)) ^^^ (exTo 1 1 (exF (exRow x0 x1 (BitVec.ofNat 64 r1) (exAll x0 x1 r1) r2) (ex5 (BitVec.ofNat 64 r1) (BitVec.ofNat 64 r2))).c1 (exRow x0 x1 (BitVec.ofNat 64 r1) (exAll x0 x1 r1) r2).f.c1))) | (rw [orUT (exTo 1 1 (exD (exRow x0 x1 (BitVec.ofNat 64 r1) (exAll x0 x1 r1) r2).d (ex5 (BitVec.ofNat 64 r1) (BitVec.ofNat 64 r2)) (exF (exRow x0 x1 (BitVec.ofNat 64 r1) (exAll x0 x1 r1) r2) (ex5 (BitVec.ofNat 64 r1) (BitVec.ofNat 64 r2)))).c1 (exRow x0 x1 (BitVec.ofNat 64 r1) (exAll x0 x1 r1) r2).d.c1) (((BitVec.ofNat 64 r1) - (BitVec.ofNat 64 r2)) ^^^ (exTo 1 1 (exF (exRow x0 x1 (BitVec.ofNat 64 r1) (exAll x0 x1 r1) r2) (ex5 (BitVec.ofNat 64 r1) (BitVec.ofNat 64 r2))).c1 (exRow x0 x1 (BitVec.ofNat 64 r1) (exAll x0 x1 r1) r2).f.c1))]; done) | (rw [orUT (exTo 1 1 (exD (exRow x0 x1 (BitVec.ofNat 64 r1) (exAll x0 x1 r1) r2).d (ex5 (BitVec.ofNat 64 r1) (BitVec.ofNat 64 r2)) (exF (exRow x0 x1 (BitVec.ofNat 64 r1) (exAll x0 x1 r1) r2) (ex5 (BitVec.ofNat 64 r1) (BitVec.ofNat 64 r2)))).c1 (exRow x0 x1 (BitVec.ofNat 64 r1) (exAll x0 x1 r1) r2).d.c1) (((BitVec.ofNat 64 r1) - (BitVec.ofNat 64 r2)) ^^^ (exTo 1 1 (exF (exRow x0 x1 (BitVec.ofNat 64 r1) (exAll x0 x1 r1) r2) (ex5 (BitVec.ofNat 64 r1) (BitVec.ofNat 64 r2))).c1 (exRow x0 x1 (BitVec.ofNat 64 r1) (exAll x0 x1 r1) r2).f.c1))]; rfl))) ?_
            simp only [sA, sB]
            refine wp_ 12 (.pointer (some ⟨k2, 1, none⟩)) rfl rfl (by intro x hx; go_simp; (first | done | exact rfl)) ?_
            simp only [sA, sB]
            refine ws 13 3 1 [.int .u64 (tn ((exTo 1 1 (exD (exRow x0 x1 (BitVec.ofNat 64 r1) (exAll x0 x1 r1) r2).d (ex5 (BitVec.ofNat 64 r1) (BitVec.ofNat 64 r2)) (exF (exRow x0 x1 (BitVec.ofNat 64 r1) (exAll x0 x1 r1) r2) (ex5 (BitVec.ofNat 64 r1) (BitVec.ofNat 64 r2)))).c1 (exRow x0 x1 (BitVec.ofNat 64 r1) (exAll x0 x1 r1) r2).d.c1) ||| (((BitVec.ofNat 64 r1) - (BitVec.ofNat 64 r2)) ^^^ (exTo 1 1 (exF (exRow x0 x1 (BitVec.ofNat 64 r1) (exAll x0 x1 r1) r2) (ex5 (BitVec.ofNat 64 r1) (BitVec.ofNat 64 r2))).c1 (exRow x0 x1 (BitVec.ofNat 64 r1) (exAll x0 x1 r1) r2).f.c1))))] rfl rfl rfl (by intro x hx; obtain ⟨_, z0, q0⟩ := hx.at1 3 1 rfl; go_simp; (first | done | rfl)) ?_
            simp only [Blk.putC, setM, sA, sB]
            clear HS
            refine wd fun W13 HS => ?_
            go_upto_region 14 with fail
            refine lnb HS.out rfl ?_
            refine lm 0 11 rfl rfl rfl rfl ?_
            simp only [sA, sB]
            refine lv 1 (.int .i64 2) rfl rfl (by intro x hx; go_simp; (first | done | exact rfl)) ?_
            simp only [sA, sB]
            refine la 2 51 rfl rfl rfl rfl ?_
            simp only [sA, sB]
            clear HS
            refine ld fun W14 HS => ?_
            go_wp2
            exact ⟨hlt3, hid ⟨_, _, _, _, _, _, _, _, _, _, _, _, _, _, _, _, _, _, _, _, _, _, _, _, rfl, (by have h := HS.out; rw [exF_f (l := (ex5 (BitVec.ofNat 64 r1) (BitVec.ofNat 64 r2))) h2.out] at h ⊢; exact h)⟩⟩
           ·have hd2 := of_decide_eq_true h2; replace h2 := hid h2
            go_upto_region 16 with fail
            refine lnb HS.out rfl ?_
            refine lm 0 11 rfl rfl rfl rfl ?_
            simp only [sA, sB]
            refine lm 1 11 rfl rfl rfl rfl ?_
            simp only [sA, sB]
            refine lv 2 (.pointer (some ⟨k3, 1, none⟩)) rfl rfl (by intro x hx; go_simp; (first | done | exact rfl)) ?_
            simp only [sA, sB]
            refine lv 3 (.int .u64 (tn ((BitVec.ofNat 64 r1) - (BitVec.ofNat 64 r2)))) rfl rfl (by intro x hx; have f0 := hx.load 4 1 rfl rfl; go_simp; (first | done | exact rfl)) ?_
            simp only [sA, sB]
            refine lv 4 (.pointer (some ⟨k1, 1, none⟩)) rfl rfl (by intro x hx; go_simp; (first | done | exact rfl)) ?_
            simp only [sA, sB]
            refine ls 5 2 1 [.int .u64 (tn ((BitVec.ofNat 64 r1) - (BitVec.ofNat 64 r2)))] rfl rfl rfl (by intro x hx; obtain ⟨_, z0, q0⟩ := hx.at1 2 1 rfl; go_simp; (first | done | rfl)) ?_
            simp only [Blk.putC, setM, sA, sB]
            clear HS
            refine ld fun W13 HS => ?_
            go_upto_region 17 with fail
            refine wkb (fun j => [13].contains j) 14 HS.out.drew rfl ?_
            refine wp_ 0 (.int .i64 1) rfl rfl (by intro x hx; go_simp; (first | done | exact rfl)) ?_
            simp only [sA, sB]
            refine wp_ 1 (.int .i64 1) rfl rfl (by intro x hx; go_simp; (first | done | exact rfl)) ?_
            simp only [sA, sB]
            refine wp_ 2 (.pointer (some ⟨k2, 1, none⟩)) rfl rfl (by intro x hx; go_simp; (first | done | exact rfl)) ?_
            simp only [sA, sB]
            refine wv 3 (.int .u64 (tn (exTo 1 1 (exD (exRow x0 x1 (BitVec.ofNat 64 r1) (exAll x0 x1 r1) r2).d (ex5 (BitVec.ofNat 64 r1) (BitVec.ofNat 64 r2)) (exF (exRow x0 x1 (BitVec.ofNat 64 r1) (exAll x0 x1 r1) r2) (ex5 (BitVec.ofNat 64 r1) (BitVec.ofNat 64 r2)))).c1 (exRow x0 x1 (BitVec.ofNat 64 r1) (exAll x0 x1 r1) r2).d.c1))) rfl rfl (by intro x hx; have f0 := hx.load 3 1 rfl rfl; go_simp; (first | done | exact rfl)) ?_
            simp only [sA, sB]
            refine wp_ 4 (.int .i64 1) rfl rfl (by intro x hx; go_simp; (first | done | exact rfl)) ?_
            simp only [sA, sB]
            refine wp_ 5 (.pointer (some ⟨k3, 1, none⟩)) rfl rfl (by intro x hx; go_simp; (first | done | exact rfl)) ?_
            simp only [sA, sB]
            refine wv 6 (.int .u64 (tn ((BitVec.ofNat 64 r1) - (BitVec.ofNat 64 r2)))) rfl rfl (by intro x hx; have f0 := hx.load 4 1 rfl rfl; go_simp; (first | done | exact rfl)) ?_
            simp only [sA, sB]
            refine wp_ 7 (.int .i64 1) rfl rfl (by intro x hx; go_simp; (first | done | exact rfl)) ?_
            simp only [sA, sB]
            refine wp_ 8 (.pointer (some ⟨k1, 1, none⟩)) rfl rfl (by intro x hx; go_simp; (first | done | exact rfl)) ?_
            simp only [sA, sB]
            refine wv 9 (.int .u64 (tn ((BitVec.ofNat 64 r1) - (BitVec.ofNat 64 r2)))) rfl rfl (by intro x hx; have f0 := hx.load 2 1 rfl rfl; go_simp; (first | done | exact rfl)) ?_
            simp only [sA, sB]
            refine wp_ 10 (.int .u64 (tn (0#64))) rfl rfl (by intro x hx; go_simp; (first | done | exact xorSelfT ((BitVec.ofNat 64 r1) - (BitVec.ofNat 64 r2)) | exact congrArg _ (xorSelfT ((BitVec.ofNat 64 r1) - (BitVec.ofNat 64 r2))) | (rw [xorSelfT ((BitVec.ofNat 64 r1) - (BitVec.ofNat 64 r2))]; done) | (rw [xorSelfT ((BitVec.ofNat 64 r1) - (BitVec.ofNat 64 r2))]; rfl))) ?_
            simp only [sA, sB]
            refine wp_ 11 (.int .u64 (tn ((exTo 1 1 (exD (exRow x0 x1 (BitVec.ofNat 64 r1) (exAll x0 x1 r1) r2).d (ex5 (BitVec.ofNat 64 r1) (BitVec.ofNat 64 r2)) (exF (exRow x0 x1 (BitVec.ofNat 64 r1) (exAll x0 x1 r1) r2) (ex5 (BitVec.ofNat 64 r1) (BitVec.ofNat 64 r2)))).c1 (exRow x0 x1 (BitVec.ofNat 64 r1) (exAll x0 x1 r1) r2).d.c1)))) rfl rfl (by intro x hx; go_simp; (first | done | exact orZeroT (exTo 1 1 (exD (exRow x0 x1 (BitVec.ofNat 64 r1) (exAll x0 x1 r1) r2).d (ex5 (BitVec.ofNat 64 r1) (BitVec.ofNat 64 r2)) (exF (exRow x0 x1 (BitVec.ofNat 64 r1) (exAll x0 x1 r1) r2) (ex5 (BitVec.ofNat 64 r1) (BitVec.ofNat 64 r2)))).c1 (exRow x0 x1 (BitVec.ofNat 64 r1) (exAll x0 x1 r1) r2).d.c1) | exact congrArg _ (orZeroT (exTo 1 1 (exD (exRow x0 x1 (BitVec.ofNat 64 r1) (exAll x0 x1 r1) r2).d (ex5 (BitVec.ofNat 64 r1) (BitVec.ofNat 64 r2)) (exF (exRow x0 x1 (BitVec.ofNat 64 r1) (exAll x0 x1 r1) r2) (ex5 (BitVec.ofNat 64 r1) (BitVec.ofNat 64 r2)))).c1 (exRow x0 x1 (BitVec.ofNat 64 r1) (exAll x0 x1 r1) r2).d.c1)) | (rw [orZeroT (exTo 1 1 (exD (exRow x0 x1 (BitVec.ofNat 64 r1) (exAll x0 x1 r1) r2).d (ex5 (BitVec.ofNat 64 r1) (BitVec.ofNat 64 r2)) (exF (exRow x0 x1 (BitVec.ofNat 64 r1) (exAll x0 x1 r1) r2) (ex5 (BitVec.ofNat 64 r1) (BitVec.ofNat 64 r2)))).c1 (exRow x0 x1 (BitVec.ofNat 64 r1) (exAll x0 x1 r1) r2).d.c1)]; done) | (rw [orZeroT (exTo 1 1 (exD (exRow x0 x1 (BitVec.ofNat 64 r1) (exAll x0 x1 r1) r2).d (ex5 (BitVec.ofNat 64 r1) (BitVec.ofNat 64 r2)) (exF (exRow x0 x1 (BitVec.ofNat 64 r1) (exAll x0 x1 r1) r2) (ex5 (BitVec.ofNat 64 r1) (BitVec.ofNat 64 r2)))).c1 (exRow x0 x1 (BitVec.ofNat 64 r1) (exAll x0 x1 r1) r2).d.c1)]; rfl))) ?_
            simp only [sA, sB]
            refine wp_ 12 (.pointer (some ⟨k2, 1, none⟩)) rfl rfl (by intro x hx; go_simp; (first | done | exact rfl)) ?_
            simp only [sA, sB]
            refine ws 13 3 1 [.int .u64 (tn ((exTo 1 1 (exD (exRow x0 x1 (BitVec.ofNat 64 r1) (exAll x0 x1 r1) r2).d (ex5 (BitVec.ofNat 64 r1) (BitVec.ofNat 64 r2)) (exF (exRow x0 x1 (BitVec.ofNat 64 r1) (exAll x0 x1 r1) r2) (ex5 (BitVec.ofNat 64 r1) (BitVec.ofNat 64 r2)))).c1 (exRow x0 x1 (BitVec.ofNat 64 r1) (exAll x0 x1 r1) r2).d.c1)))] rfl rfl rfl (by intro x hx; obtain ⟨_, z0, q0⟩ := hx.at1 3 1 rfl; go_simp; (first | done | rfl)) ?_
            simp only [Blk.putC, setM, sA, sB]
            clear HS
            refine wd fun W14 HS => ?_
            go_upto_region 14 with fail
            refine lnb HS.out rfl ?_
            refine lm 0 11 rfl rfl rfl rfl ?_
            simp only [sA, sB]
            refine lv 1 (.int .i64 2) rfl rfl (by intro x hx; go_simp; (first | done | exact rfl)) ?_
            simp only [sA, sB]
            refine la 2 51 rfl rfl rfl rfl ?_
            simp only [sA, sB]
            clear HS
            refine ld fun W15 HS => ?_
            go_wp2
            exact ⟨hlt3, hid ⟨_, _, _, _, _, _, _, _, _, _, _, _, _, _, _, _, _, _, _, _, _, _, _, _, rfl, (by have h := HS.out; rw [exF_t (l := (ex5 (BitVec.ofNat 64 r1) (BitVec.ofNat 64 r2))) h2.out, exD_same] at h ⊢; exact h)⟩⟩
         · rw [show ((2 : Nat) : Int) = 2 from rfl]
           go_upto_region 13 with fail
           refine lnb HS.out rfl ?_
           refine lm 0 11 rfl rfl rfl rfl ?_
           simp only [sA, sB]
           refine lv 1 (.bool true) rfl rfl (by intro x hx; go_simp; (first | done | exact rfl)) ?_
           simp only [sA, sB]
           clear HS
           refine ld fun W11 HS => ?_
           go_upto_region 15 with fail
           refine lnb HS.out rfl ?_
           refine lm 0 7 rfl rfl rfl rfl ?_
           simp only [sA, sB]
           refine lv 1 (.bool ((decide (((exRow x0 x1 (BitVec.ofNat 64 r1) (exAll x0 x1 r1) r2).n) = 0)))) rfl rfl (by intro x hx; go_simp; (first | done | exact decide_eq_decide.2 (by omega) | omega | (trace_state; sorry))) ?_
           simp only [sA, sB]
           clear HS
           refine ld fun W12 HS => ?_
           cases h2 : ((decide (((exRow x0 x1 (BitVec.ofNat 64 r1) (exAll x0 x1 r1) r2).n) = 0)))
           ·have hd2 := of_decide_eq_false h2; replace h2 := hid h2
            go_upto_region 17 with fail
            refine wkb (fun j => [13].contains j) 14 HS.out.drew rfl ?_
            refine wp_ 0 (.int .i64 2) rfl rfl (by intro x hx; go_simp; (first | done | exact rfl)) ?_
            simp only [sA, sB]
            refine wp_ 1 (.int .i64 2) rfl rfl (by intro x hx; go_simp; (first | done | exact rfl)) ?_
            simp only [sA, sB]
            refine wp_ 2 (.pointer (some ⟨k2, 2, none⟩)) rfl rfl (by intro x hx; go_simp; (first | done | exact rfl)) ?_
            simp only [sA, sB]
            refine wv 3 (.int .u64 (tn (exTo 2 2 (exD (exRow x0 x1 (BitVec.ofNat 64 r1) (exAll x0 x1 r1) r2).d (ex5 (BitVec.ofNat 64 r1) (BitVec.ofNat 64 r2)) (exF (exRow x0 x1 (BitVec.ofNat 64 r1) (exAll x0 x1 r1) r2) (ex5 (BitVec.ofNat 64 r1) (BitVec.ofNat 64 r2)))).c2 (exRow x0 x1 (BitVec.ofNat 64 r1) (exAll x0 x1 r1) r2).d.c2))) rfl rfl (by intro x hx; have f0 := hx.load 3 2 rfl rfl; go_simp; (first | done | exact rfl)) ?_
            simp only [sA, sB]
            refine wp_ 4 (.int .i64 2) rfl rfl (by intro x hx; go_simp; (first | done | exact rfl)) ?_
            simp only [sA, sB]
            refine wp_ 5 (.pointer (some ⟨k3, 2, none⟩)) rfl rfl (by intro x hx; go_simp; (first | done | exact rfl)) ?_
            simp only [sA, sB]
            refine wv 6 (.int .u64 (tn ((BitVec.ofNat 64 r1) &&& (BitVec.ofNat 64 r2)))) rfl rfl (by intro x hx; have f0 := hx.load 4 2 rfl rfl; go_simp; (first | done | exact rfl)) ?_
            simp only [sA, sB]
            refine wp_ 7 (.int .i64 2) rfl rfl (by intro x hx; go_simp; (first | done | exact rfl)) ?_
            simp only [sA, sB]
            refine wp_ 8 (.pointer (some ⟨k1, 2, none⟩)) rfl rfl (by intro x hx; go_simp; (first | done | exact rfl)) ?_
            simp only [sA, sB]
            refine wv 9 (.int .u64 (tn (exTo 2 2 (exF (exRow x0 x1 (BitVec.ofNat 64 r1) (exAll x0 x1 r1) r2) (ex5 (BitVec.ofNat 64 r1) (BitVec.ofNat 64 r2))).c2 (exRow x0 x1 (BitVec.ofNat 64 r1) (exAll x0 x1 r1) r2).f.c2))) rfl rfl (by intro x hx; have f0 := hx.load 2 2 rfl rfl; go_simp; (first | done | exact rfl)) ?_
            simp only [sA, sB]
            refine wp_ 10 (.int .u64 (tn (((BitVec.ofNat 64 r1) &&& (BitVec.ofNat 64 r2)) ^^^ (exTo 2 2 (exF (exRow x0 x1 (BitVec.ofNat 64 r1) (exAll x0 x1 r1) r2) (ex5 (BitVec.ofNat 64 r1) (BitVec.ofNat 64 r2))).c2 (exRow x0 x1 (BitVec.ofNat 64 r1) (exAll x0 x1 r1) r2).f.c2)))) rfl rfl (by intro x hx; go_simp; (first | done | exact xorUT ((BitVec.ofNat 64 r1) &&& (BitVec.ofNat 64 r2)) (exTo 2 2 (exF (exRow x0 x1 (BitVec.ofNat 64 r1) (exAll x0 x1 r1) r2) (ex5 (BitVec.ofNat 64 r1) (BitVec.ofNat 64 r2))).c2 (exRow x0 x1 (BitVec.ofNat 64 r1) (exAll x0 x1 r1) r2).f.c2) | exact congrArg _ (xorUT ((BitVec.ofNat 64 r1) &&& (BitVec.ofNat 64 r2)) (exTo 2 2 (exF (exRow x0 x1 (BitVec.ofNat 64 r1) (exAll x0 x1 r1) r2) (ex5 (BitVec.ofNat 64 r1) (BitVec.ofNat 64 r2))).c2 (exRow x0 x1 (BitVec.ofNat 64 r1) (exAll x0 x1 r1) r2).f.c2)) | (rw [xorUT ((BitVec.ofNat 64 r1) &&& (BitVec.ofNat 64 r2)) (exTo 2 2 (exF (exRow x0 x1 (BitVec.ofNat 64 r1) (exAll x0 x1 r1) r2) (ex5 (BitVec.ofNat 64 r1) (BitVec.ofNat 64 r2))).c2 (exRow x0 x1 (BitVec.ofNat 64 r1) (exAll x0 x1 r1) r2).f.c2)]; done) | (rw [xorUT ((BitVec.ofNat 64 r1) &&& (BitVec.ofNat 64 r2)) (exTo 2 2 (exF (exRow x0 x1 (BitVec.ofNat 64 r1) (exAll x0 x1 r1) r2) (ex5 (BitVec.ofNat 64 r1) (BitVec.ofNat 64 r2))).c2 (exRow x0 x1 (BitVec.ofNat 64 r1) (exAll x0 x1 r1) r2).f.c2)]; rfl))) ?_
            simp only [sA, sB]
            refine wp_ 11 (.int .u64 (tn ((exTo 2 2 (exD (exRow x0 x1 (BitVec.ofNat 64 r1) (exAll x0 x1 r1) r2).d (ex5 (BitVec.ofNat 64 r1) (BitVec.ofNat 64 r2)) (exF (exRow x0 x1 (BitVec.ofNat 64 r1) (exAll x0 x1 r1) r2) (ex5 (BitVec.ofNat 64 r1) (BitVec.ofNat 64 r2)))).c2 (exRow x0 x1 (BitVec.ofNat 64 r1) (exAll x0 x1 r1) r2).d.c2) ||| (((BitVec.ofNat 64 r1) &&& (BitVec.ofNat 64 r2)) ^^^ (exTo 2 2 (exF (exRow x0 x1 (BitVec.ofNat 64 r1) (exAll x0 x1 r1) r2) (ex5 (BitVec.ofNat 64 r1) (BitVec.ofNat 64 r2))).c2 (exRow x0 x1 (BitVec.ofNat 64 r1) (exAll x0 x1 r1) r2).f.c2))))) rfl rfl (by intro x hx; go_simp; (first | done | exact orUT (exTo 2 2 (exD (exRow x0 x1 (BitVec.ofNat 64 r1) (exAll x0 x1 r1) r2).d (ex5 (BitVec.ofNat 64 r1) (BitVec.ofNat 64 r2)) (exF (exRow x0 x1 (BitVec.ofNat 64 r1) (exAll x0 x1 r1) r2) (ex5 (BitVec.ofNat 64 r1) (BitVec.ofNat 64 r2)))).c2 (exRow x0 x1 (BitVec.ofNat 64 r1) (exAll x0 x1 r1) r2).d.c2) (((BitVec.ofNat 64 r1) &&& (BitVec.ofNat 64 r2)) ^^^ (exTo 2 2 (exF (exRow x0 x1 (BitVec.ofNat 64 r1) (exAll x0 x1 r1) r2) (ex5 (BitVec.ofNat 64 r1) (BitVec.ofNat 64 r2))).c2 (exRow x0 x1 (BitVec.ofNat 64 r1) (exAll x0 x1 r1) r2).f.c2)) | exact congrArg _ (orUT (exTo 2 2 (exD (exRow x0 x1 (BitVec.ofNat 64 r1) (exAll x0 x1 r1) r2).d (ex5 (BitVec.ofNat 64 r1) (BitVec.ofNat 64 r2)) (exF (exRow x0 x1 (BitVec.ofNat 64 r1) (exAll x0 x1 r1) r2) (ex5 (BitVec.ofNat 64 r1) (BitVec.ofNat 64 r2)))).c2 (exRow x0 x1 (BitVec.ofNat 64 r1) (exAll x0 x1 r1) r2).d.c2) (((BitVec.ofNat 64 r1) &&& (BitVec.ofNat 64 r2)) ^^^ (exTo 2 2 (exF (exRow x0 x1 (BitVec.ofNat 64 r1) (exAll x0 x1 r1) r2) (ex5 (BitVec.ofNat 64 r1) (BitVec.ofNat 64 r2))).c2 (exRow x0 x1 (BitVec.ofNat 64 r1) (exAll x0 x1 r1) r2).f.c2))) | (rw [orUT (exTo 2 2 (exD (exRow x0 x1 (BitVec.ofNat 64 r1) (exAll x0 x1 r1) r2).d (ex5 (BitVec.ofNat 64 r1) (BitVec.ofNat 64 r2)) (exF (exRow x0 x1 (BitVec.ofNat 64 r1) (exAll x0 x1 r1) r2) (ex5 (BitVec.ofNat 64 r1) (BitVec.ofNat 64 r2)))).c2 (exRow x0 x1 (BitVec.ofNat 64 r1) (exAll x0 x1 r1) r2).d.c2) (((BitVec.ofNat 64 r1) &&& (BitVec.ofNat 64 r2)) ^^^ (exTo 2 2 (exF (exRow x0 x1 (BitVec.ofNat 64 r1) (exAll x0 x1 r1) r2) (ex5 (BitVec.ofNat 64 r1) (BitVec.ofNat 64 r2))).c2 (exRow x0 x1 (BitVec.ofNat 64 r1) (exAll x0 x1 r1) r2).f.c2))]; done) | (rw [orUT (exTo 2 2 (exD (exRow x0 x1 (BitVec.ofNat 64 r1) (exAll x0 x1 r1) r2).d (ex5 (BitVec.ofNat 64 r1) (BitVec.ofNat 64 r2)) (exF (exRow x0 x1 (BitVec.ofNat 64 r1) (exAll x0 x1 r1) r2) (ex5 (BitVec.ofNat 64 r1) (BitVec.ofNat 64 r2)))).c2 (exRow x0 x1 (BitVec.ofNat 64 r1) (exAll x0 x1 r1) r2).d.c2) (((BitVec.ofNat 64 r1) &&& (BitVec.ofNat 64 r2)) ^^^ (exTo 2 2 (exF (exRow x0 x1 (BitVec.ofNat 64 r1) (exAll x0 x1 r1) r2) (ex5 (BitVec.ofNat 64 r1) (BitVec.ofNat 64 r2))).c2 (exRow x0 x1 (BitVec.ofNat 64 r1) (exAll x0 x1 r1) r2).f.c2))]; rfl))) ?_
            simp only [sA, sB]
            refine wp_ 12 (.pointer (some ⟨k2, 2, none⟩)) rfl rfl (by intro x hx; go_simp; (first | done | exact rfl)) ?_
            simp only [sA, sB]
            refine ws 13 3 2 [.int .u64 (tn ((exTo 2 2 (exD (exRow x0 x1 (BitVec.ofNat 64 r1) (exAll x0 x1 r1) r2).d (ex5 (BitVec.ofNat 64 r1) (BitVec.ofNat 64 r2)) (exF (exRow x0 x1 (BitVec.ofNat 64 r1) (exAll x0 x1 r1) r2) (ex5 (BitVec.ofNat 64 r1) (BitVec.ofNat 64 r2)))).c2 (exRow x0 x1 (BitVec.ofNat 64 r1) (exAll x0 x1 r1) r2).d.c2) ||| (((BitVec.ofNat 64 r1) &&& (BitVec.ofNat 64 r2)) ^^^ (exTo 2 2 (exF (exRow x0 x1 (BitVec.ofNat 64 r1) (exAll x0 x1 r1) r2) (ex5 (BitVec.ofNat 64 r1) (BitVec.ofNat 64 r2))).c2 (exRow x0 x1 (BitVec.ofNat 64 r1) (exAll x0 x1 r1) r2).f.c2))))] rfl rfl rfl (by intro x hx; obtain ⟨_, z0, q0⟩ := hx.at1 3 2 rfl; go_simp; (first | done | rfl)) ?_
            simp only [Blk.putC, setM, sA, sB]
            clear HS
            refine wd fun W13 HS => ?_
            go_upto_region 14 with fail
            refine lnb HS.out rfl ?_
            refine lm 0 11 rfl rfl rfl rfl ?_
            simp only [sA, sB]
            refine lv 1 (.int .i64 3) rfl rfl (by intro x hx; go_simp; (first | done | exact rfl)) ?_
            simp only [sA, sB]
            refine la 2 51 rfl rfl rfl rfl ?_
            simp only [sA, sB]
            clear HS
            refine ld fun W14 HS => ?_
            go_wp2
            exact ⟨hlt3, hid ⟨_, _, _, _, _, _, _, _, _, _, _, _, _, _, _, _, _, _, _, _, _, _, _, _, rfl, (by have h := HS.out; rw [exF_f (l := (ex5 (BitVec.ofNat 64 r1) (BitVec.ofNat 64 r2))) h2.out] at h ⊢; exact h)⟩⟩
           ·have hd2 := of_decide_eq_true h2; replace h2 := hid h2
            go_upto_region 16 with fail
            refine lnb HS.out rfl ?_
            refine lm 0 11 rfl rfl rfl rfl ?_
            simp only [sA, sB]
            refine lm 1 11 rfl rfl rfl rfl ?_
            simp only [sA, sB]
            refine lv 2 (.pointer (some ⟨k3, 2, none⟩)) rfl rfl (by intro x hx; go_simp; (first | done | exact rfl)) ?_
            simp only [sA, sB]
            refine lv 3 (.int .u64 (tn ((BitVec.ofNat 64 r1) &&& (BitVec.ofNat 64 r2)))) rfl rfl (by intro x hx; have f0 := hx.load 4 2 rfl rfl; go_simp; (first | done | exact rfl)) ?_
            simp only [sA, sB]
            refine lv 4 (.pointer (some ⟨k1, 2, none⟩)) rfl rfl (by intro x hx; go_simp; (first | done | exact rfl)) ?_
            simp only [sA, sB]
            refine ls 5 2 2 [.int .u64 (tn ((BitVec.ofNat 64 r1) &&& (BitVec.ofNat 64 r2)))] rfl rfl rfl (by intro x hx; obtain ⟨_, z0, q0⟩ := hx.at1 2 2 rfl; go_simp; (first | done | rfl)) ?_
            simp only [Blk.putC, setM, sA, sB]
            clear HS
            refine ld fun W13 HS => ?_
            go_upto_region 17 with fail
            refine wkb (fun j => [13].contains j) 14 HS.out.drew rfl ?_
            refine wp_ 0 (.int .i64 2) rfl rfl (by intro x hx; go_simp; (first | done | exact rfl)) ?_
            simp only [sA, sB]
            refine wp_ 1 (.int .i64 2) rfl rfl (by intro x hx; go_simp; (first | done | exact rfl)) ?_
            simp only [sA, sB]
            refine wp_ 2 (.pointer (some ⟨k2, 2, none⟩)) rfl rfl (by intro x hx; go_simp; (first | done | exact rfl)) ?_
            simp only [sA, sB]
            refine wv 3 (.int .u64 (tn (exTo 2 2 (exD (exRow x0 x1 (BitVec.ofNat 64 r1) (exAll x0 x1 r1) r2).d (ex5 (BitVec.ofNat 64 r1) (BitVec.ofNat 64 r2)) (exF (exRow x0 x1 (BitVec.ofNat 64 r1) (exAll x0 x1 r1) r2) (ex5 (BitVec.ofNat 64 r1) (BitVec.ofNat 64 r2)))).c2 (exRow x0 x1 (BitVec.ofNat 64 r1) (exAll x0 x1 r1) r2).d.c2))) rfl rfl (by intro x hx; have f0 := hx.load 3 2 rfl rfl; go_simp; (first | done | exact rfl)) ?_
            simp only [sA, sB]
            refine wp_ 4 (.int .i64 2) rfl rfl (by intro x hx; go_simp; (first | done | exact rfl)) ?_
            simp only [sA, sB]
            refine wp_ 5 (.pointer (some ⟨k3, 2, none⟩)) rfl rfl (by intro x hx; go_simp; (first | done | exact rfl)) ?_
            simp only [sA, sB]
            refine wv 6 (.int .u64 (tn ((BitVec.ofNat 64 r1) &&& (BitVec.ofNat 64 r2)))) rfl rfl (by intro x hx; have f0 := hx.load 4 2 rfl rfl; go_simp; (first | done | exact rfl)) ?_
            simp only [sA, sB]
            refine wp_ 7 (.int .i64 2) rfl rfl (by intro x hx; go_simp; (first | done | exact rfl)) ?_
            simp only [sA, sB]
            refine wp_ 8 (.pointer (some ⟨k1, 2, none⟩)) rfl rfl (by intro x hx; go_simp; (first | done | exact rfl)) ?_
            simp only [sA, sB]
            refine wv 9 (.int .u64 (tn ((BitVec.ofNat 64 r1) &&& (BitVec.ofNat 64 r2)))) rfl rfl (by intro x hx; have f0 := hx.load 2 2 rfl rfl; go_simp; (first | done | exact rfl)) ?_
            simp only [sA, sB]
            refine wp_ 10 (.int .u64 (tn (0#64))) rfl rfl (by intro x hx; go_simp; (first | done | exact xorSelfT ((BitVec.ofNat 64 r1) &&& (BitVec.ofNat 64 r2)) | exact congrArg _ (xorSelfT ((BitVec.ofNat 64 r1) &&& (BitVec.ofNat 64 r2))) | (rw [xorSelfT ((BitVec.ofNat 64 r1) &&& (BitVec.ofNat 64 r2))]; done) | (rw [xorSelfT ((BitVec.ofNat 64 r1) &&& (BitVec.ofNat 64 r2))]; rfl))) ?_
            simp only [sA, sB]
            refine wp_ 11 (.int .u64 (tn ((exTo 2 2 (exD (exRow x0 x1 (BitVec.ofNat 64 r1) (exAll x0 x1 r1) r2).d (ex5 (BitVec.ofNat 64 r1) (BitVec.ofNat 64 r2)) (exF (exRow x0 x1 (BitVec.ofNat 64 r1) (exAll x0 x1 r1) r2) (ex5 (BitVec.ofNat 64 r1) (BitVec.ofNat 64 r2)))).c2 (exRow x0 x1 (BitVec.ofNat 64 r1) (exAll x0 x1 r1) r2).d.c2)))) rfl rfl (by intro x hx; go_simp; (first | done | exact orZeroT (exTo 2 2 (exD (exRow x0 x1 (BitVec.ofNat 64 r1) (exAll x0 x1 r1) r2).d (ex5 (BitVec.ofNat 64 r1) (BitVec.ofNat 64 r2)) (exF (exRow x0 x1 (BitVec.ofNat 64 r1) (exAll x0 x1 r1) r2) (ex5 (BitVec.ofNat 64 r1) (BitVec.ofNat 64 r2)))).c2 (exRow x0 x1 (BitVec.ofNat 64 r1) (exAll x0 x1 r1) r2).d.c2) | exact congrArg _ (orZeroT (exTo 2 2 (exD (exRow x0 x1 (BitVec.ofNat 64 r1) (exAll x0 x1 r1) r2).d (ex5 (BitVec.ofNat 64 r1) (BitVec.ofNat 64 r2)) (exF (exRow x0 x1 (BitVec.ofNat 64 r1) (exAll x0 x1 r1) r2) (ex5 (BitVec.ofNat 64 r1) (BitVec.ofNat 64 r2)))).c2 (exRow x0 x1 (BitVec.ofNat 64 r1) (exAll x0 x1 r1) r2).d.c2)) | (rw [orZeroT (exTo 2 2 (exD (exRow x0 x1 (BitVec.ofNat 64 r1) (exAll x0 x1 r1) r2).d (ex5 (BitVec.ofNat 64 r1) (BitVec.ofNat 64 r2)) (exF (exRow x0 x1 (BitVec.ofNat 64 r1) (exAll x0 x1 r1) r2) (ex5 (BitVec.ofNat 64 r1) (BitVec.ofNat 64 r2)))).c2 (exRow x0 x1 (BitVec.ofNat 64 r1) (exAll x0 x1 r1) r2).d.c2)]; done) | (rw [orZeroT (exTo 2 2 (exD (exRow x0 x1 (BitVec.ofNat 64 r1) (exAll x0 x1 r1) r2).d (ex5 (BitVec.ofNat 64 r1) (BitVec.ofNat 64 r2)) (exF (exRow x0 x1 (BitVec.ofNat 64 r1) (exAll x0 x1 r1) r2) (ex5 (BitVec.ofNat 64 r1) (BitVec.ofNat 64 r2)))).c2 (exRow x0 x1 (BitVec.ofNat 64 r1) (exAll x0 x1 r1) r2).d.c2)]; rfl))) ?_
            simp only [sA, sB]
            refine wp_ 12 (.pointer (some ⟨k2, 2, none⟩)) rfl rfl (by intro x hx; go_simp; (first | done | exact rfl)) ?_
            simp only [sA, sB]
            refine ws 13 3 2 [.int .u64 (tn ((exTo 2 2 (exD (exRow x0 x1 (BitVec.ofNat 64 r1) (exAll x0 x1 r1) r2).d (ex5 (BitVec.ofNat 64 r1) (BitVec.ofNat 64 r2)) (exF (exRow x0 x1 (BitVec.ofNat 64 r1) (exAll x0 x1 r1) r2) (ex5 (BitVec.ofNat 64 r1) (BitVec.ofNat 64 r2)))).c2 (exRow x0 x1 (BitVec.ofNat 64 r1) (exAll x0 x1 r1) r2).d.c2)))] rfl rfl rfl (by intro x hx; obtain ⟨_, z0, q0⟩ := hx.at1 3 2 rfl; go_simp; (first | done | rfl)) ?_
            simp only [Blk.putC, setM, sA, sB]
            clear HS
            refine wd fun W14 HS => ?_
            go_upto_region 14 with fail
            refine lnb HS.out rfl ?_
            refine lm 0 11 rfl rfl rfl rfl ?_
            simp only [sA, sB]
            refine lv 1 (.int .i64 3) rfl rfl (by intro x hx; go_simp; (first | done | exact rfl)) ?_
            simp only [sA, sB]
            refine la 2 51 rfl rfl rfl rfl ?_
            simp only [sA, sB]
            clear HS
            refine ld fun W15 HS => ?_
            go_wp2
            exact ⟨hlt3, hid ⟨_, _, _, _, _, _, _, _, _, _, _, _, _, _, _, _, _, _, _, _, _, _, _, _, rfl, (by have h := HS.out; rw [exF_t (l := (ex5 (BitVec.ofNat 64 r1) (BitVec.ofNat 64 r2))) h2.out, exD_same] at h ⊢; exact h)⟩⟩
         · rw [show ((3 : Nat) : Int) = 3 from rfl]
           go_upto_region 13 with fail
           refine lnb HS.out rfl ?_
           refine lm 0 11 rfl rfl rfl rfl ?_
           simp only [sA, sB]
           refine lv 1 (.bool true) rfl rfl (by intro x hx; go_simp; (first | done | exact rfl)) ?_
           simp only [sA, sB]
           clear HS
           refine ld fun W11 HS => ?_
           go_upto_region 15 with fail
           refine lnb HS.out rfl ?_
           refine lm 0 7 rfl rfl rfl rfl ?_
           simp only [sA, sB]
           refine lv 1 (.bool ((decide (((exRow x0 x1 (BitVec.ofNat 64 r1) (exAll x0 x1 r1) r2).n) = 0)))) rfl rfl (by intro x hx; go_simp; (first | done | exact decide_eq_decide.2 (by omega) | omega | (trace_state; sorry))) ?_
           simp only [sA, sB]
           clear HS
           refine ld fun W12 HS => ?_
           cases h2 : ((decide (((exRow x0 x1 (BitVec.ofNat 64 r1) (exAll x0 x1 r1) r2).n) = 0)))
           ·have hd2 := of_decide_eq_false h2; replace h2 := hid h2
            go_upto_region 17 with fail
            refine wkb (fun j => [13].contains j) 14 HS.out.drew rfl ?_
            refine wp_ 0 (.int .i64 3) rfl rfl (by intro x hx; go_simp; (first | done | exact rfl)) ?_
            simp only [sA, sB]
            refine wp_ 1 (.int .i64 3) rfl rfl (by intro x hx; go_simp; (first | done | exact rfl)) ?_
            simp only [sA, sB]
            refine wp_ 2 (.pointer (some ⟨k2, 3, none⟩)) rfl rfl (by intro x hx; go_simp; (first | done | exact rfl)) ?_
            simp only [sA, sB]
            refine wv 3 (.int .u64 (tn (exTo 3 3 (exD (exRow x0 x1 (BitVec.ofNat 64 r1) (exAll x0 x1 r1) r2).d (ex5 (BitVec.ofNat 64 r1) (BitVec.ofNat 64 r2)) (exF (exRow x0 x1 (BitVec.ofNat 64 r1) (exAll x0 x1 r1) r2) (ex5 (BitVec.ofNat 64 r1) (BitVec.ofNat 64 r2)))).c3 (exRow x0 x1 (BitVec.ofNat 64 r1) (exAll x0 x1 r1) r2).d.c3))) rfl rfl (by intro x hx; have f0 := hx.load 3 3 rfl rfl; go_simp; (first | done | exact rfl)) ?_
            simp only [sA, sB]
            refine wp_ 4 (.int .i64 3) rfl rfl (by intro x hx; go_simp; (first | done | exact rfl)) ?_
            simp only [sA, sB]
            refine wp_ 5 (.pointer (some ⟨k3, 3, none⟩)) rfl rfl (by intro x hx; go_simp; (first | done | exact rfl)) ?_
            simp only [sA, sB]
            refine wv 6 (.int .u64 (tn ((BitVec.ofNat 64 r1) ||| (BitVec.ofNat 64 r2)))) rfl rfl (by intro x hx; have f0 := hx.load 4 3 rfl rfl; go_simp; (first | done | exact rfl)) ?_
            simp only [sA, sB]
            refine wp_ 7 (.int .i64 3) rfl rfl (by intro x hx; go_simp; (first | done | exact rfl)) ?_
            simp only [sA, sB]
            refine wp_ 8 (.pointer (some ⟨k1, 3, none⟩)) rfl rfl (by intro x hx; go_simp; (first | done | exact rfl)) ?_
            simp only [sA, sB]
            refine wv 9 (.int .u64 (tn (exTo 3 3 (exF (exRow x0 x1 (BitVec.ofNat 64 r1) (exAll x0 x1 r1) r2) (ex5 (BitVec.ofNat 64 r1) (BitVec.ofNat 64 r2))).c3 (exRow x0 x1 (BitVec.ofNat 64 r1) (exAll x0 x1 r1) r2).f.c3))) rfl rfl (by intro x hx; have f0 := hx.load 2 3 rfl rfl; go_simp; (first | done | exact rfl)) ?_
            simp only [sA, sB]
            refine wp_ 10 (.int .u64 (tn (((BitVec.ofNat 64 r1) ||| (BitVec.ofNat 64 r2)) ^^^ (exTo 3 3 (exF (exRow x0 x1 (BitVec.ofNat 64 r1) (exAll x0 x1 r1) r2) (ex5 (BitVec.ofNat 64 r1) (BitVec.ofNat 64 r2))).c3 (exRow x0 x1 (BitVec.ofNat 64 r1) (exAll x0 x1 r1) r2).f.c3)))) rfl rfl (by intro x hx; go_simp; (first | done | exact xorUT ((BitVec.ofNat 64 r1) ||| (BitVec.ofNat 64 r2)) (exTo 3 3 (exF (exRow x0 x1 (BitVec.ofNat 64 r1) (exAll x0 x1 r1) r2) (ex5 (BitVec.ofNat 64 r1) (BitVec.ofNat 64 r2))).c3 (exRow x0 x1 (BitVec.ofNat 64 r1) (exAll x0 x1 r1) r2).f.c3) | exact congrArg _ (xorUT ((BitVec.ofNat 64 r1) ||| (BitVec.ofNat 64 r2)) (exTo 3 3 (exF (exRow x0 x1 (BitVec.ofNat 64 r1) (exAll x0 x1 r1) r2) (ex5 (BitVec.ofNat 64 r1) (BitVec.ofNat 64 r2))).c3 (exRow x0 x1 (BitVec.ofNat 64 r1) (exAll x0 x1 r1) r2).f.c3)) | (rw [xorUT ((BitVec.ofNat 64 r1) ||| (BitVec.ofNat 64 r2)) (exTo 3 3 (exF (exRow x0 x1 (BitVec.ofNat 64 r1) (exAll x0 x1 r1) r2) (ex5 (BitVec.ofNat 64 r1) (BitVec.ofNat 64 r2))).c3 (exRow x0 x1 (BitVec.ofNat 64 r1) (exAll x0 x1 r1) r2).f.c3)]; done) | (rw [xorUT ((BitVec.ofNat 64 r1) ||| (BitVec.ofNat 64 r2)) (exTo 3 3 (exF (exRow x0 x1 (BitVec.ofNat 64 r1) (exAll x0 x1 r1) r2) (ex5 (BitVec.ofNat 64 r1) (BitVec.ofNat 64 r2))).c3 (exRow x0 x1 (BitVec.ofNat 64 r1) (exAll x0 x1 r1) r2).f.c3)]; rfl))) ?_
            simp only [sA, sB]
            refine wp_ 11 (.int .u64 (tn ((exTo 3 3 (exD (exRow x0 x1 (BitVec.ofNat 64 r1) (exAll x0 x1 r1) r2).d (ex5 (BitVec.ofNat 64 r1) (BitVec.ofNat 64 r2)) (exF (exRow x0 x1 (BitVec.ofNat 64 r1) (exAll x0 x1 r1) r2) (ex5 (BitVec.ofNat 64 r1) (BitVec.ofNat 64 r2)))).c3 (exRow x0 x1 (BitVec.ofNat 64 r1) (exAll x0 x1 r1) r2).d.c3) ||| (((BitVec.ofNat 64 r1) ||| (BitVec.ofNat 64 r2)) ^^^ (exTo 3 3 (exF (exRow x0 x1 (BitVec.ofNat 64 r1) (exAll x0 x1 r1) r2) (ex5 (BitVec.ofNat 64 r1) (BitVec.ofNat 64 r2))).c3 (exRow x0 x1 (BitVec.ofNat 64 r1) (exAll x0 x1 r1) r2).f.c3))))) rfl rfl (by intro x hx; go_simp; (first | done | exact orUT (exTo 3 3 (exD (exRow x0 x1 (BitVec.ofNat 64 r1) (exAll x0 x1 r1) r2).d (ex5 (BitVec.ofNat 64 r1) (BitVec.ofNat 64 r2)) (exF (exRow x0 x1 (BitVec.ofNat 64 r1) (exAll x0 x1 r1) r2) (ex5 (BitVec.ofNat 64 r1) (BitVec.ofNat 64 r2)))).c3 (exRow x0 x1 (BitVec.ofNat 64 r1) (exAll x0 x1 r1) r2).d.c3) (((BitVec.ofNat 64 r1) ||| (BitVec.ofNat 64 r2)) ^^^ (exTo 3 3 (exF (exRow x0 x1 (BitVec.ofNat 64 r1) (exAll x0 x1 r1) r2) (ex5 (BitVec.ofNat 64 r1) (BitVec.ofNat 64 r2))).c3 (exRow x0 x1 (BitVec.ofNat 64 r1) (exAll x0 x1 r1) r2).f.c3)) | exact congrArg _ (orUT (exTo 3 3 (exD (exRow x0 x1 (BitVec.ofNat 64 r1) (exAll x0 x1 r1) r2).d (ex5 (BitVec.ofNat 64 r1) (BitVec.ofNat 64 r2)) (exF (exRow x0 x1 (BitVec.ofNat 64 r1) (exAll x0 x1 r1) r2) (ex5 (BitVec.ofNat 64 r1) (BitVec.ofNat 64 r2)))).c3 (exRow x0 x1 (BitVec.ofNat 64 r1) (exAll x0 x1 r1) r2).d.c3) (((BitVec.ofNat 64 r1) ||| (BitVec.ofNat 64 r2)) ^^^ (exTo 3 3 (exF (exRow x0 x1 (BitVec.ofNat 64 r1) (exAll x0 x1 r1) r2) (ex5 (BitVec.ofNat 64 r1) (BitVec.ofNat 64 r2))).c3 (exRow x0 x1 (BitVec.ofNat 64 r1) (exAll x0 x1 r1) r2).f.c3))) | (rw [orUT (exTo 3 3 (exD (exRow x0 x1 (BitVec.ofNat 64 r1) (exAll x0 x1 r1) r2).d (ex5 (BitVec.ofNat 64 r1) (BitVec.ofNat 64 r2)) (exF (exRow x0 x1 (BitVec.ofNat 64 r1) (exAll x0 x1 r1) r2) (ex5 (BitVec.ofNat 64 r1) (BitVec.ofNat 64 r2)))).c3 (exRow x0 x1 (BitVec.ofNat 64 r1) (exAll x0 x1 r1) r2).d.c3) (((BitVec.ofNat 64 r1) ||| (BitVec.ofNat 64 r2)) ^^^ (exTo 3 3 (exF (exRow x0 x1 (BitVec.ofNat 64 r1) (exAll x0 x1 r1) r2) (ex5 (BitVec.ofNat 64 r1) (BitVec.ofNat 64 r2))).c3 (exRow x0 x1 (BitVec.ofNat 64 r1) (exAll x0 x1 r1) r2).f.c3))]; done) | (rw [orUT (exTo 3 3 (exD (exRow x0 x1 (BitVec.ofNat 64 r1) (exAll x0 x1 r1) r2).d (ex5 (BitVec.ofNat 64 r1) (BitVec.ofNat 64 r2)) (exF (exRow x0 x1 (BitVec.ofNat 64 r1) (exAll x0 x1 r1) r2) (ex5 (BitVec.ofNat 64 r1) (BitVec.ofNat 64 r2)))).c3 (exRow x0 x1 (BitVec.ofNat 64 r1) (exAll x0 x1 r1) r2).d.c3) (((BitVec.ofNat 64 r1) ||| (BitVec.ofNat 64 r2)) ^^^ (exTo 3 3 (exF (exRow x0 x1 (BitVec.ofNat 64 r1) (exAll x0 x1 r1) r2) (ex5 (BitVec.ofNat 64 r1) (BitVec.ofNat 64 r2))).c3 (exRow x0 x1 (BitVec.ofNat 64 r1) (exAll x0 x1 r1) r2).f.c3))]; rfl))) ?_
            simp only [sA, sB]
            refine wp_ 12 (.pointer (some ⟨k2, 3, none⟩)) rfl rfl (by intro x hx; go_simp; (first | done | exact rfl)) ?_
            simp only [sA, sB]
            refine ws 13 3 3 [.int .u64 (tn ((exTo 3 3 (exD (exRow x0 x1 (BitVec.ofNat 64 r1) (exAll x0 x1 r1) r2).d (ex5 (BitVec.ofNat 64 r1) (BitVec.ofNat 64 r2)) (exF (exRow x0 x1 (BitVec.ofNat 64 r1) (exAll x0 x1 r1) r2) (ex5 (BitVec.ofNat 64 r1) (BitVec.ofNat 64 r2)))).c3 (exRow x0 x1 (BitVec.ofNat 64 r1) (exAll x0 x1 r1) r2).d.c3) ||| (((BitVec.ofNat 64 r1) ||| (BitVec.ofNat 64 r2)) ^^^ (exTo 3 3 (exF (exRow x0 x1 (BitVec.ofNat 64 r1) (exAll x0 x1 r1) r2) (ex5 (BitVec.ofNat 64 r1) (BitVec.ofNat 64 r2))).c3 (exRow x0 x1 (BitVec.ofNat 64 r1) (exAll x0 x1 r1) r2).f.c3))))] rfl rfl rfl (by intro x hx; obtain ⟨_, z0, q0⟩ := hx.at1 3 3 rfl; go_simp; (first | done | rfl)) ?_
            simp only [Blk.putC, setM, sA, sB]
            clear HS
            refine wd fun W13 HS => ?_
            go_upto_region 14 with fail
            refine lnb HS.out rfl ?_
            refine lm 0 11 rfl rfl rfl rfl ?_
            simp only [sA, sB]
            refine lv 1 (.int .i64 4) rfl rfl (by intro x hx; go_simp; (first | done | exact rfl)) ?_
            simp only [sA, sB]
            refine la 2 51 rfl rfl rfl rfl ?_
            simp only [sA, sB]
            clear HS
            refine ld fun W14 HS => ?_
            go_wp2
            exact ⟨hlt3, hid ⟨_, _, _, _, _, _, _, _, _, _, _, _, _, _, _, _, _, _, _, _, _, _, _, _, rfl, (by have h := HS.out; rw [exF_f (l := (ex5 (BitVec.ofNat 64 r1) (BitVec.ofNat 64 r2))) h2.out] at h ⊢; exact h)⟩⟩
           ·have hd2 := of_decide_eq_true h2; replace h2 := hid h2
            go_upto_region 16 with fail
            refine lnb HS.out rfl ?_
            refine lm 0 11 rfl rfl rfl rfl ?_
            simp only [sA, sB]
            refine lm 1 11 rfl rfl rfl rfl ?_
            simp only [sA, sB]
            refine lv 2 (.pointer (some ⟨k3, 3, none⟩)) rfl rfl (by intro x hx; go_simp; (first | done | exact rfl)) ?_
            simp only [sA, sB]
            refine lv 3 (.int .u64 (tn ((BitVec.ofNat 64 r1) ||| (BitVec.ofNat 64 r2)))) rfl rfl (by intro x hx; have f0 := hx.load 4 3 rfl rfl; go_simp; (first | done | exact rfl)) ?_
            simp only [sA, sB]
            refine lv 4 (.pointer (some ⟨k1, 3, none⟩)) rfl rfl (by intro x hx; go_simp; (first | done | exact rfl)) ?_
            simp only [sA, sB]
            refine ls 5 2 3 [.int .u64 (tn ((BitVec.ofNat 64 r1) ||| (BitVec.ofNat 64 r2)))] rfl rfl rfl (by intro x hx; obtain ⟨_, z0, q0⟩ := hx.at1 2 3 rfl; go_simp; (first | done | rfl)) ?_
            simp only [Blk.putC, setM, sA, sB]
            clear HS
            refine ld fun W13 HS => ?_
            go_upto_region 17 with fail
            refine wkb (fun j => [13].contains j) 14 HS.out.drew rfl ?_
            refine wp_ 0 (.int .i64 3) rfl rfl (by intro x hx; go_simp; (first | done | exact rfl)) ?_
            simp only [sA, sB]
            refine wp_ 1 (.int .i64 3) rfl rfl (by intro x hx; go_simp; (first | done | exact rfl)) ?_
            simp only [sA, sB]
            refine wp_ 2 (.pointer (some ⟨k2, 3, none⟩)) rfl rfl (by intro x hx; go_simp; (first | done | exact rfl)) ?_
            simp only [sA, sB]
            refine wv 3 (.int .u64 (tn (exTo 3 3 (exD (exRow x0 x1 (BitVec.ofNat 64 r1) (exAll x0 x1 r1) r2).d (ex5 (BitVec.ofNat 64 r1) (BitVec.ofNat 64 r2)) (exF (exRow x0 x1 (BitVec.ofNat 64 r1) (exAll x0 x1 r1) r2) (ex5 (BitVec.ofNat 64 r1) (BitVec.ofNat 64 r2)))).c3 (exRow x0 x1 (BitVec.ofNat 64 r1) (exAll x0 x1 r1) r2).d.c3))) rfl rfl (by intro x hx; have f0 := hx.load 3 3 rfl rfl; go_simp; (first | done | exact rfl)) ?_
            simp only [sA, sB]
            refine wp_ 4 (.int .i64 3) rfl rfl (by intro x hx; go_simp; (first | done | exact rfl)) ?_
            simp only [sA, sB]
            refine wp_ 5 (.pointer (some ⟨k3, 3, none⟩)) rfl rfl (by intro x hx; go_simp; (first | done | exact rfl)) ?_
            simp only [sA, sB]
            refine wv 6 (.int .u64 (tn ((BitVec.ofNat 64 r1) ||| (BitVec.ofNat 64 r2)))) rfl rfl (by intro x hx; have f0 := hx.load 4 3 rfl rfl; go_simp; (first | done | exact rfl)) ?_
            simp only [sA, sB]
            refine wp_ 7 (.int .i64 3) rfl rfl (by intro x hx; go_simp; (first | done | exact rfl)) ?_
            simp only [sA, sB]
            refine wp_ 8 (.pointer (some ⟨k1, 3, none⟩)) rfl rfl (by intro x hx; go_simp; (first | done | exact rfl)) ?_
            simp only [sA, sB]
            refine wv 9 (.int .u64 (tn ((BitVec.ofNat 64 r1) ||| (BitVec.ofNat 64 r2)))) rfl rfl (by intro x hx; have f0 := hx.load 2 3 rfl rfl; go_simp; (first | done | exact rfl)) ?_
            simp only [sA, sB]
            refine wp_ 10 (.int .u64 (tn (0#64))) rfl rfl (by intro x hx; go_simp; (first | done | exact xorSelfT ((BitVec.ofNat 64 r1) ||| (BitVec.ofNat 64 r2)) | exact congrArg _ (xorSelfT ((BitVec.ofNat 64 r1) ||| (BitVec.ofNat 64 r2))) | (rw [xorSelfT ((BitVec.ofNat 64 r1) ||| (BitVec.ofNat 64 r2))]; done) | (rw [xorSelfT ((BitVec.ofNat 64 r1) ||| (BitVec.ofNat 64 r2))]; rfl))) ?_
            simp only [sA, sB]
            refine wp_ 11 (.int .u64 (tn ((exTo 3 3 (exD (exRow x0 x1 (BitVec.ofNat 64 r1) (exAll x0 x1 r1) r2).d (ex5 (BitVec.ofNat 64 r1) (BitVec.ofNat 64 r2)) (exF (exRow x0 x1 (BitVec.ofNat 64 r1) (exAll x0 x1 r1) r2) (ex5 (BitVec.ofNat 64 r1) (BitVec.ofNat 64 r2)))).c3 (exRow x0 x1 (BitVec.ofNat 64 r1) (exAll x0 x1 r1) r2).d.c3)))) rfl rfl (by intro x hx; go_simp; (first | done | exact orZeroT (exTo 3 3 (exD (exRow x0 x1 (BitVec.ofNat 64 r1) (exAll x0 x1 r1) r2).d (ex5 (BitVec.ofNat 64 r1) (BitVec.ofNat 64 r2)) (exF (exRow x0 x1 (BitVec.ofNat 64 r1) (exAll x0 x1 r1) r2) (ex5 (BitVec.ofNat 64 r1) (BitVec.ofNat 64 r2)))).c3 (exRow x0 x1 (BitVec.ofNat 64 r1) (exAll x0 x1 r1) r2).d.c3) | exact congrArg _ (orZeroT (exTo 3 3 (exD (exRow x0 x1 (BitVec.ofNat 64 r1) (exAll x0 x1 r1) r2).d (ex5 (BitVec.ofNat 64 r1) (BitVec.ofNat 64 r2)) (exF (exRow x0 x1 (BitVec.ofNat 64 r1) (exAll x0 x1 r1) r2) (ex5 (BitVec.ofNat 64 r1) (BitVec.ofNat 64 r2)))).c3 (exRow x0 x1 (BitVec.ofNat 64 r1) (exAll x0 x1 r1) r2).d.c3)) | (rw [orZeroT (exTo 3 3 (exD (exRow x0 x1 (BitVec.ofNat 64 r1) (exAll x0 x1 r1) r2).d (ex5 (BitVec.ofNat 64 r1) (BitVec.ofNat 64 r2)) (exF (exRow x0 x1 (BitVec.ofNat 64 r1) (exAll x0 x1 r1) r2) (ex5 (BitVec.ofNat 64 r1) (BitVec.ofNat 64 r2)))).c3 (exRow x0 x1 (BitVec.ofNat 64 r1) (exAll x0 x1 r1) r2).d.c3)]; done) | (rw [orZeroT (exTo 3 3 (exD (exRow x0 x1 (BitVec.ofNat 64 r1) (exAll x0 x1 r1) r2).d (ex5 (BitVec.ofNat 64 r1) (BitVec.ofNat 64 r2)) (exF (exRow x0 x1 (BitVec.ofNat 64 r1) (exAll x0 x1 r1) r2) (ex5 (BitVec.ofNat 64 r1) (BitVec.ofNat 64 r2)))).c3 (exRow x0 x1 (BitVec.ofNat 64 r1) (exAll x0 x1 r1) r2).d.c3)]; rfl))) ?_
            simp only [sA, sB]
            refine wp_ 12 (.pointer (some ⟨k2, 3, none⟩)) rfl rfl (by intro x hx; go_simp; (first | done | exact rfl)) ?_
            simp only [sA, sB]
            refine ws 13 3 3 [.int .u64 (tn ((exTo 3 3 (exD (exRow x0 x1 (BitVec.ofNat 64 r1) (exAll x0 x1 r1) r2).d (ex5 (BitVec.ofNat 64 r1) (BitVec.ofNat 64 r2)) (exF (exRow x0 x1 (BitVec.ofNat 64 r1) (exAll x0 x1 r1) r2) (ex5 (BitVec.ofNat 64 r1) (BitVec.ofNat 64 r2)))).c3 (exRow x0 x1 (BitVec.ofNat 64 r1) (exAll x0 x1 r1) r2).d.c3)))] rfl rfl rfl (by intro x hx; obtain ⟨_, z0, q0⟩ := hx.at1 3 3 rfl; go_simp; (first | done | rfl)) ?_
            simp only [Blk.putC, setM, sA, sB]
            clear HS
            refine wd fun W14 HS => ?_
            go_upto_region 14 with fail
            refine lnb HS.out rfl ?_
            refine lm 0 11 rfl rfl rfl rfl ?_
            simp only [sA, sB]
            refine lv 1 (.int .i64 4) rfl rfl (by intro x hx; go_simp; (first | done | exact rfl)) ?_
            simp only [sA, sB]
            refine la 2 51 rfl rfl rfl rfl ?_
            simp only [sA, sB]
            clear HS
            refine ld fun W15 HS => ?_
            go_wp2
            exact ⟨hlt3, hid ⟨_, _, _, _, _, _, _, _, _, _, _, _, _, _, _, _, _, _, _, _, _, _, _, _, rfl, (by have h := HS.out; rw [exF_t (l := (ex5 (BitVec.ofNat 64 r1) (BitVec.ofNat 64 r2))) h2.out, exD_same] at h ⊢; exact h)⟩⟩
         · rw [show ((4 : Nat) : Int) = 4 from rfl]
           go_upto_region 13 with fail
           refine lnb HS.out rfl ?_
           refine lm 0 11 rfl rfl rfl rfl ?_
           simp only [sA, sB]
           refine lv 1 (.bool true) rfl rfl (by intro x hx; go_simp; (first | done | exact rfl)) ?_
           simp only [sA, sB]
           clear HS
           refine ld fun W11 HS => ?_
           go_upto_region 15 with fail
           refine lnb HS.out rfl ?_
           refine lm 0 7 rfl rfl rfl rfl ?_
           simp only [sA, sB]
           refine lv 1 (.bool ((decide (((exRow x0 x1 (BitVec.ofNat 64 r1) (exAll x0 x1 r1) r2).n) = 0)))) rfl rfl (by intro x hx; go_simp; (first | done | exact decide_eq_decide.2 (by omega) | omega | (trace_state; sorry))) ?_
           simp only [sA, sB]
           clear HS
           refine ld fun W12 HS => ?_
           cases h2 : ((decide (((exRow x0 x1 (BitVec.ofNat 64 r1) (exAll x0 x1 r1) r2).n) = 0)))
           ·have hd2 := of_decide_eq_false h2; replace h2 := hid h2
            go_upto_region 17 with fail
            refine wkb (fun j => [13].contains j) 14 HS.out.drew rfl ?_
            refine wp_ 0 (.int .i64 4) rfl rfl (by intro x hx; go_simp; (first | done | exact rfl)) ?_
            simp only [sA, sB]
            refine wp_ 1 (.int .i64 4) rfl rfl (by intro x hx; go_simp; (first | done | exact rfl)) ?_
            simp only [sA, sB]
            refine wp_ 2 (.pointer (some ⟨k2, 4, none⟩)) rfl rfl (by intro x hx; go_simp; (first | done | exact rfl)) ?_
            simp only [sA, sB]
            refine wv 3 (.int .u64 (tn (exTo 4 4 (exD (exRow x0 x1 (BitVec.ofNat 64 r1) (exAll x0 x1 r1) r2).d (ex5 (BitVec.ofNat 64 r1) (BitVec.ofNat 64 r2)) (exF (exRow x0 x1 (BitVec.ofNat 64 r1) (exAll x0 x1 r1) r2) (ex5 (BitVec.ofNat 64 r1) (BitVec.ofNat 64 r2)))).c4 (exRow x0 x1 (BitVec.ofNat 64 r1) (exAll x0 x1 r1) r2).d.c4))) rfl rfl (by intro x hx; have f0 := hx.load 3 4 rfl rfl; go_simp; (first | done | exact rfl)) ?_
            simp only [sA, sB]
            refine wp_ 4 (.int .i64 4) rfl rfl (by intro x hx; go_simp; (first | done | exact rfl)) ?_
            simp only [sA, sB]
            refine wp_ 5 (.pointer (some ⟨k3, 4, none⟩)) rfl rfl (by intro x hx; go_simp; (first | done | exact rfl)) ?_
            simp only [sA, sB]
            refine wv 6 (.int .u64 (tn ((BitVec.ofNat 64 r1) ^^^ (BitVec.ofNat 64 r2)))) rfl rfl (by intro x hx; have f0 := hx.load 4 4 rfl rfl; go_simp; (first | done | exact rfl)) ?_
            simp only [sA, sB]
            refine wp_ 7 (.int .i64 4) rfl rfl (by intro x hx; go_simp; (first | done | exact rfl)) ?_
            simp only [sA, sB]
            refine wp_ 8 (.pointer (some ⟨k1, 4, none⟩)) rfl rfl (by intro x hx; go_simp; (first | done | exact rfl)) ?_
            simp only [sA, sB]
            refine wv 9 (.int .u64 (tn (exTo 4 4 (exF (exRow x0 x1 (BitVec.ofNat 64 r1) (exAll x0 x1 r1) r2) (ex5 (BitVec.ofNat 64 r1) (BitVec.ofNat 64 r2))).c4 (exRow x0 x1 (BitVec.ofNat 64 r1) (exAll x0 x1 r1) r2).f.c4))) rfl rfl (by intro x hx; have f0 := hx.load 2 4 rfl rfl; go_simp; (first | done | exact rfl)) ?_
            simp only [sA, sB]
            refine wp_ 10 (.int .u64 (tn (((BitVec.ofNat 64 r1) ^^^ (BitVec.ofNat 64 r2)) ^^^ (exTo 4 4 (exF (exRow x0 x1 (BitVec.ofNat 64 r1) (exAll x0 x1 r1) r2) (ex5 (BitVec.ofNat 64 r1) (BitVec.ofNat 64 r2))).c4 (exRow x0 x1 (BitVec.ofNat 64 r1) (exAll x0 x1 r1) r2).f.c4)))) rfl rfl (by intro x hx; go_simp; (first | done | exact xorUT ((BitVec.ofNat 64 r1) ^^^ (BitVec.ofNat 64 r2)) (exTo 4 4 (exF (exRow x0 x1 (BitVec.ofNat 64 r1) (exAll x0 x1 r1) r2) (ex5 (BitVec.ofNat 64 r1) (BitVec.ofNat 64 r2))).c4 (exRow x0 x1 (BitVec.ofNat 64 r1) (exAll x0 x1 r1) r2).f.c4) | exact congrArg _ (xorUT ((BitVec.ofNat 64 r1) ^^^ (BitVec.ofNat 64 r2)) (exTo 4 4 (exF (exRow x0 x1 (BitVec.ofNat 64 r1) (exAll x0 x1 r1) r2) (ex5 (BitVec.ofNat 64 r1) (BitVec.ofNat 64 r2))).c4 (exRow x0 x1 (BitVec.ofNat 64 r1) (exAll x0 x1 r1) r2).f.c4)) | (rw [xorUT ((BitVec.ofNat 64 r1) ^^^ (BitVec.ofNat 64 r2)) (exTo 4 4 (exF (exRow x0 x1 (BitVec.ofNat 64 r1) (exAll x0 x1 r1) r2) (ex5 (BitVec.ofNat 64 r1) (BitVec.ofNat 64 r2))).c4 (exRow x0 x1 (BitVec.ofNat 64 r1) (exAll x0 x1 r1) r2).f.c4)]; done) | (rw [xorUT ((BitVec.ofNat 64 r1) ^^^ (BitVec.ofNat 64 r2)) (exTo 4 4 (exF (exRow x0 x1 (BitVec.ofNat 64 r1) (exAll x0 x1 r1) r2) (ex5 (BitVec.ofNat 64 r1) (BitVec.ofNat 64 r2))).c4 (exRow x0 x1 (BitVec.ofNat 64 r1) (exAll x0 x1 r1) r2).f.c4)]; rfl))) ?_
            simp only [sA, sB]
            refine wp_ 11 (.int .u64 (tn ((exTo 4 4 (exD (exRow x0 x1 (BitVec.ofNat 64 r1) (exAll x0 x1 r1) r2).d (ex5 (BitVec.ofNat 64 r1) (BitVec.ofNat 64 r2)) (exF (exRow x0 x1 (BitVec.ofNat 64 r1) (exAll x0 x1 r1) r2) (ex5 (BitVec.ofNat 64 r1) (BitVec.ofNat 64 r2)))).c4 (exRow x0 x1 (BitVec.ofNat 64 r1) (exAll x0 x1 r1) r2).d.c4) ||| (((BitVec.ofNat 64 r1) ^^^ (BitVec.ofNat 64 r2)) ^^^ (exTo 4 4 (exF (exRow x0 x1 (BitVec.ofNat 64 r1) (exAll x0 x1 r1) r2) (ex5 (BitVec.ofNat 64 r1) (BitVec.ofNat 64 r2))).c4 (exRow x0 x1 (BitVec.ofNat 64 r1) (exAll x0 x1 r1) r2).f.c4))))) rfl rfl (by intro x hx; go_simp; (first | done | exact orUT (exTo 4 4 (exD (exRow x0 x1 (BitVec.ofNat 64 r1) (exAll x0 x1 r1) r2).d (ex5 (BitVec.ofNat 64 r1) (BitVec.ofNat 64 r2)) (exF (exRow x0 x1 (BitVec.ofNat 64 r1) (exAll x0 x1 r1) r2) (ex5 (BitVec.ofNat 64 r1) (BitVec.ofNat 64 r2)))).c4 (exRow x0 x1 (BitVec.ofNat 64 r1) (exAll x0 x1 r1) r2).d.c4) (((BitVec.ofNat 64 r1) ^^^ (BitVec.ofNat 64 r2)) ^^^ (exTo 4 4 (exF (exRow x0 x1 (BitVec.ofNat 64 r1) (exAll x0 x1 r1) r2) (ex5 (BitVec.ofNat 64 r1) (BitVec.ofNat 64 r2))).c4 (exRow x0 x1 (BitVec.ofNat 64 r1) (exAll x0 x1 r1) r2).f.c4)) | exact congrArg _ (orUT (exTo 4 4 (exD (exRow x0 x1 (BitVec.ofNat 64 r1) (exAll x0 x1 r1) r2).d (ex5 (BitVec.ofNat 64 r1) (BitVec.ofNat 64 r2)) (exF (exRow x0 x1 (BitVec.ofNat 64 r1) (exAll x0 x1 r1) r2) (ex5 (BitVec.ofNat 64 r1) (BitVec.ofNat 64 r2)))).c4 (exRow x0 x1 (BitVec.ofNat 64 r1) (exAll x0 x1 r1) r2).d.c4) (((BitVec.ofNat 64 r1) ^^^ (BitVec.ofNat 64 r2)) ^^^ (exTo 4 4 (exF (exRow x0 x1 (BitVec.ofNat 64 r1) (exAll x0 x1 r1) r2) (ex5 (BitVec.ofNat 64 r1) (BitVec.ofNat 64 r2))).c4 (exRow x0 x1 (BitVec.ofNat 64 r1) (exAll x0 x1 r1) r2).f.c4))) | (rw [orUT (exTo 4 4 (exD (exRow x0 x1 (BitVec.ofNat 64 r1) (exAll x0 x1 r1) r2).d (ex5 (BitVec.ofNat 64 r1) (BitVec.ofNat 64 r2)) (exF (exRow x0 x1 (BitVec.ofNat 64 r1) (exAll x0 x1 r1) r2) (ex5 (BitVec.ofNat 64 r1) (BitVec.ofNat 64 r2)))).c4 (exRow x0 x1 (BitVec.ofNat 64 r1) (exAll x0 x1 r1) r2).d.c4) (((BitVec.ofNat 64 r1) ^^^ (BitVec.ofNat 64 r2)) ^^^ (exTo 4 4 (exF (exRow x0 x1 (BitVec.ofNat 64 r1) (exAll x0 x1 r1) r2) (ex5 (BitVec.ofNat 64 r1) (BitVec.ofNat 64 r2))).c4 (exRow x0 x1 (BitVec.ofNat 64 r1) (exAll x0 x1 r1) r2).f.c4))]; done) | (rw [orUT (exTo 4 4 (exD (exRow x0 x1 (BitVec.ofNat 64 r1) (exAll x0 x1 r1) r2).d (ex5 (BitVec.ofNat 64 r1) (BitVec.ofNat 64 r2)) (exF (exRow x0 x1 (BitVec.ofNat 64 r1) (exAll x0 x1 r1) r2) (ex5 (BitVec.ofNat 64 r1) (BitVec.ofNat 64 r2)))).c4 (exRow x0 x1 (BitVec.ofNat 64 r1) (exAll x0 x1 r1) r2).d.c4) (((BitVec.ofNat 64 r1) ^^^ (BitVec.ofNat 64 r2)) ^^^ (exTo 4 4 (exF (exRow x0 x1 (BitVec.ofNat 64 r1) (exAll x0 x1 r1) r2) (ex5 (BitVec.ofNat 64 r1) (BitVec.ofNat 64 r2))).c4 (exRow x0 x1 (BitVec.ofNat 64 r1) (exAll x0 x1 r1) r2).f.c4))]; rfl))) ?_
            simp only [sA, sB]
            refine wp_ 12 (.pointer (some ⟨k2, 4, none⟩)) rfl rfl (by intro x hx; go_simp; (first | done | exact rfl)) ?_
            simp only [sA, sB]
            refine ws 13 3 4 [.int .u64 (tn ((exTo 4 4 (exD (exRow x0 x1 (BitVec.ofNat 64 r1) (exAll x0 x1 r1) r2).d (ex5 (BitVec.ofNat 64 r1) (BitVec.ofNat 64 r2)) (exF (exRow x0 x1 (BitVec.ofNat 64 r1) (exAll x0 x1 r1) r2) (ex5 (BitVec.ofNat 64 r1) (BitVec.ofNat 64 r2)))).c4 (exRow x0 x1 (BitVec.ofNat 64 r1) (exAll x0 x1 r1) r2).d.c4) ||| (((BitVec.ofNat 64 r1) ^^^ (BitVec.ofNat 64 r2)) ^^^ (exTo 4 4 (exF (exRow x0 x1 (BitVec.ofNat 64 r1) (exAll x0 x1 r1) r2) (ex5 (BitVec.ofNat 64 r1) (BitVec.ofNat 64 r2))).c4 (exRow x0 x1 (BitVec.ofNat 64 r1) (exAll x0 x1 r1) r2).f.c4))))] rfl rfl rfl (by intro x hx; obtain ⟨_, z0, q0⟩ := hx.at1 3 4 rfl; go_simp; (first | done | rfl)) ?_
            simp only [Blk.putC, setM, sA, sB]
            clear HS
            refine wd fun W13 HS => ?_
            go_upto_region 14 with fail
            refine lnb HS.out rfl ?_
            refine lm 0 11 rfl rfl rfl rfl ?_
            simp only [sA, sB]
            refine lv 1 (.int .i64 5) rfl rfl (by intro x hx; go_simp; (first | done | exact rfl)) ?_
            simp only [sA, sB]
            refine la 2 51 rfl rfl rfl rfl ?_
            simp only [sA, sB]
            clear HS
            refine ld fun W14 HS => ?_
            go_wp2
            exact ⟨hlt3, hid ⟨_, _, _, _, _, _, _, _, _, _, _, _, _, _, _, _, _, _, _, _, _, _, _, _, rfl, (by have h := HS.out; rw [exF_f (l := (ex5 (BitVec.ofNat 64 r1) (BitVec.ofNat 64 r2))) h2.out] at h ⊢; exact h)⟩⟩
           ·have hd2 := of_decide_eq_true h2; replace h2 := hid h2
            go_upto_region 16 with fail
            refine lnb HS.out rfl ?_
            refine lm 0 11 rfl rfl rfl rfl ?_
            simp only [sA, sB]
            refine lm 1 11 rfl rfl rfl rfl ?_
            simp only [sA, sB]
            refine lv 2 (.pointer (some ⟨k3, 4, none⟩)) rfl rfl (by intro x hx; go_simp; (first | done | exact rfl)) ?_
            simp only [sA, sB]
            refine lv 3 (.int .u64 (tn ((BitVec.ofNat 64 r1) ^^^ (BitVec.ofNat 64 r2)))) rfl rfl (by intro x hx; have f0 := hx.load 4 4 rfl rfl; go_simp; (first | done | exact rfl)) ?_
            simp only [sA, sB]
            refine lv 4 (.pointer (some ⟨k1, 4, none⟩)) rfl rfl (by intro x hx; go_simp; (first | done | exact rfl)) ?_
            simp only [sA, sB]
            refine ls 5 2 4 [.int .u64 (tn ((BitVec.ofNat 64 r1) ^^^ (BitVec.ofNat 64 r2)))] rfl rfl rfl (by intro x hx; obtain ⟨_, z0, q0⟩ := hx.at1 2 4 rfl; go_simp; (first | done | rfl)) ?_
            simp only [Blk.putC, setM, sA, sB]
            clear HS
            refine ld fun W13 HS => ?_
            go_upto_region 17 with fail
            refine wkb (fun j => [13].contains j) 14 HS.out.drew rfl ?_
            refine wp_ 0 (.int .i64 4) rfl rfl (by intro x hx; go_simp; (first | done | exact rfl)) ?_
            simp only [sA, sB]
            refine wp_ 1 (.int .i64 4) rfl rfl (by intro x hx; go_simp; (first | done | exact rfl)) ?_
            simp only [sA, sB]
            refine wp_ 2 (.pointer (some ⟨k2, 4, none⟩)) rfl rfl (by intro x hx; go_simp; (first | done | exact rfl)) ?_
            simp only [sA, sB]
            refine wv 3 (.int .u64 (tn (exTo 4 4 (exD (exRow x0 x1 (BitVec.ofNat 64 r1) (exAll x0 x1 r1) r2).d (ex5 (BitVec.ofNat 64 r1) (BitVec.ofNat 64 r2)) (exF (exRow x0 x1 (BitVec.ofNat 64 r1) (exAll x0 x1 r1) r2) (ex5 (BitVec.ofNat 64 r1) (BitVec.ofNat 64 r2)))).c4 (exRow x0 x1 (BitVec.ofNat 64 r1) (exAll x0 x1 r1) r2).d.c4))) rfl rfl (by intro x hx; have f0 := hx.load 3 4 rfl rfl; go_simp; (first | done | exact rfl)) ?_
            simp only [sA, sB]
            refine wp_ 4 (.int .i64 4) rfl rfl (by intro x hx; go_simp; (first | done | exact rfl)) ?_
            simp only [sA, sB]
            refine wp_ 5 (.pointer (some ⟨k3, 4, none⟩)) rfl rfl (by intro x hx; go_simp; (first | done | exact rfl)) ?_
            simp only [sA, sB]
            refine wv 6 (.int .u64 (tn ((BitVec.ofNat 64 r1) ^^^ (BitVec.ofNat 64 r2)))) rfl rfl (by intro x hx; have f0 := hx.load 4 4 rfl rfl; go_simp; (first | done | exact rfl)) ?_
            simp only [sA, sB]
            refine wp_ 7 (.int .i64 4) rfl rfl (by intro x hx; go_simp; (first | done | exact rfl)) ?_
            simp only [sA, sB]
            refine wp_ 8 (.pointer (some ⟨k1, 4, none⟩)) rfl rfl (by intro x hx; go_simp; (first | done | exact rfl)) ?_
            simp only [sA, sB]
            refine wv 9 (.int .u64 (tn ((BitVec.ofNat 64 r1) ^^^ (BitVec.ofNat 64 r2)))) rfl rfl (by intro x hx; have f0 := hx.load 2 4 rfl rfl; go_simp; (first | done | exact rfl)) ?_
            simp only [sA, sB]
            refine wp_ 10 (.int .u64 (tn (0#64))) rfl rfl (by intro x hx; go_simp; (first | done | exact xorSelfT ((BitVec.ofNat 64 r1) ^^^ (BitVec.ofNat 64 r2)) | exact congrArg _ (xorSelfT ((BitVec.ofNat 64 r1) ^^^ (BitVec.ofNat 64 r2))) | (rw [xorSelfT ((BitVec.ofNat 64 r1) ^^^ (BitVec.ofNat 64 r2))]; done) | (rw [xorSelfT ((BitVec.ofNat 64 r1) ^^^ (BitVec.ofNat 64 r2))]; rfl))) ?_
            simp only [sA, sB]
            refine wp_ 11 (.int .u64 (tn ((exTo 4 4 (exD (exRow x0 x1 (BitVec.ofNat 64 r1) (exAll x0 x1 r1) r2).d (ex5 (BitVec.ofNat 64 r1) (BitVec.ofNat 64 r2)) (exF (exRow x0 x1 (BitVec.ofNat 64 r1) (exAll x0 x1 r1) r2) (ex5 (BitVec.ofNat 64 r1) (BitVec.ofNat 64 r2)))).c4 (exRow x0 x1 (BitVec.ofNat 64 r1) (exAll x0 x1 r1) r2).d.c4)))) rfl rfl (by intro x hx; go_simp; (first | done | exact orZeroT (exTo 4 4 (exD (exRow x0 x1 (BitVec.ofNat 64 r1) (exAll x0 x1 r1) r2).d (ex5 (BitVec.ofNat 64 r1) (BitVec.ofNat 64 r2)) (exF (exRow x0 x1 (BitVec.ofNat 64 r1) (exAll x0 x1 r1) r2) (ex5 (BitVec.ofNat 64 r1) (BitVec.ofNat 64 r2)))).c4 (exRow x0 x1 (BitVec.ofNat 64 r1) (exAll x0 x1 r1) r2).d.c4) | exact congrArg _ (orZeroT (exTo 4 4 (exD (exRow x0 x1 (BitVec.ofNat 64 r1) (exAll x0 x1 r1) r2).d (ex5 (BitVec.ofNat 64 r1) (BitVec.ofNat 64 r2)) (exF (exRow x0 x1 (BitVec.ofNat 64 r1) (exAll x0 x1 r1) r2) (ex5 (BitVec.ofNat 64 r1) (BitVec.ofNat 64 r2)))).c4 (exRow x0 x1 (BitVec.ofNat 64 r1) (exAll x0 x1 r1) r2).d.c4)) | (rw [orZeroT (exTo 4 4 (exD (exRow x0 x1 (BitVec.ofNat 64 r1) (exAll x0 x1 r1) r2).d (ex5 (BitVec.ofNat 64 r1) (BitVec.ofNat 64 r2)) (exF (exRow x0 x1 (BitVec.ofNat 64 r1) (exAll x0 x1 r1) r2) (ex5 (BitVec.ofNat 64 r1) (BitVec.ofNat 64 r2)))).c4 (exRow x0 x1 (BitVec.ofNat 64 r1) (exAll x0 x1 r1) r2).d.c4)]; done) | (rw [orZeroT (exTo 4 4 (exD (exRow x0 x1 (BitVec.ofNat 64 r1) (exAll x0 x1 r1) r2).d (ex5 (BitVec.ofNat 64 r1) (BitVec.ofNat 64 r2)) (exF (exRow x0 x1 (BitVec.ofNat 64 r1) (exAll x0 x1 r1) r2) (ex5 (BitVec.ofNat 64 r1) (BitVec.ofNat 64 r2)))).c4 (exRow x0 x1 (BitVec.ofNat 64 r1) (exAll x0 x1 r1) r2).d.c4)]; rfl))) ?_
            simp only [sA, sB]
            refine wp_ 12 (.pointer (some ⟨k2, 4, none⟩)) rfl rfl (by intro x hx; go_simp; (first | done | exact rfl)) ?_
            simp only [sA, sB]
            refine ws 13 3 4 [.int .u64 (tn ((exTo 4 4 (exD (exRow x0 x1 (BitVec.ofNat 64 r1) (exAll x0 x1 r1) r2).d (ex5 (BitVec.ofNat 64 r1) (BitVec.ofNat 64 r2)) (exF (exRow x0 x1 (BitVec.ofNat 64 r1) (exAll x0 x1 r1) r2) (ex5 (BitVec.ofNat 64 r1) (BitVec.ofNat 64 r2)))).c4 (exRow x0 x1 (BitVec.ofNat 64 r1) (exAll x0 x1 r1) r2).d.c4)))] rfl rfl rfl (by intro x hx; obtain ⟨_, z0, q0⟩ := hx.at1 3 4 rfl; go_simp; (first | done | rfl)) ?_
            simp only [Blk.putC, setM, sA, sB]
            clear HS
            refine wd fun W14 HS => ?_
            go_upto_region 14 with fail
            refine lnb HS.out rfl ?_
            refine lm 0 11 rfl rfl rfl rfl ?_
            simp only [sA, sB]
            refine lv 1 (.int .i64 5) rfl rfl (by intro x hx; go_simp; (first | done | exact rfl)) ?_
            simp only [sA, sB]
            refine la 2 51 rfl rfl rfl rfl ?_
            simp only [sA, sB]
            clear HS
            refine ld fun W15 HS => ?_
            go_wp2
            exact ⟨hlt3, hid ⟨_, _, _, _, _, _, _, _, _, _, _, _, _, _, _, _, _, _, _, _, _, _, _, _, rfl, (by have h := HS.out; rw [exF_t (l := (ex5 (BitVec.ofNat 64 r1) (BitVec.ofNat 64 r2))) h2.out, exD_same] at h ⊢; exact h)⟩⟩
       · have hN3 := hid (show r3 = 5 by omega)
         replace HS := hid (show St w [⟨w.heap.size, [some (.int .u64 (tn (x0.lo))), some (.int .u64 (tn (x0.hi)))], 24⟩, ⟨w.heap.size + 1, [some (.int .u64 (tn (x1.lo))), some (.int .u64 (tn (x1.hi)))], 24⟩, ⟨k1, [some (.int .u64 (tn ((exF (exRow x0 x1 (BitVec.ofNat 64 r1) (exAll x0 x1 r1) r2) (ex5 (BitVec.ofNat 64 r1) (BitVec.ofNat 64 r2))).c0))), some (.int .u64 (tn ((exF (exRow x0 x1 (BitVec.ofNat 64 r1) (exAll x0 x1 r1) r2) (ex5 (BitVec.ofNat 64 r1) (BitVec.ofNat 64 r2))).c1))), some (.int .u64 (tn ((exF (exRow x0 x1 (BitVec.ofNat 64 r1) (exAll x0 x1 r1) r2) (ex5 (BitVec.ofNat 64 r1) (BitVec.ofNat 64 r2))).c2))), some (.int .u64 (tn ((exF (exRow x0 x1 (BitVec.ofNat 64 r1) (exAll x0 x1 r1) r2) (ex5 (BitVec.ofNat 64 r1) (BitVec.ofNat 64 r2))).c3))), some (.int .u64 (tn ((exF (exRow x0 x1 (BitVec.ofNat 64 r1) (exAll x0 x1 r1) r2) (ex5 (BitVec.ofNat 64 r1) (BitVec.ofNat 64 r2))).c4)))], 32⟩, ⟨k2, [some (.int .u64 (tn ((exD (exRow x0 x1 (BitVec.ofNat 64 r1) (exAll x0 x1 r1) r2).d (ex5 (BitVec.ofNat 64 r1) (BitVec.ofNat 64 r2)) (exF (exRow x0 x1 (BitVec.ofNat 64 r1) (exAll x0 x1 r1) r2) (ex5 (BitVec.ofNat 64 r1) (BitVec.ofNat 64 r2)))).c0))), some (.int .u64 (tn ((exD (exRow x0 x1 (BitVec.ofNat 64 r1) (exAll x0 x1 r1) r2).d (ex5 (BitVec.ofNat 64 r1) (BitVec.ofNat 64 r2)) (exF (exRow x0 x1 (BitVec.ofNat 64 r1) (exAll x0 x1 r1) r2) (ex5 (BitVec.ofNat 64 r1) (BitVec.ofNat 64 r2)))).c1))), some (.int .u64 (tn ((exD (exRow x0 x1 (BitVec.ofNat 64 r1) (exAll x0 x1 r1) r2).d (ex5 (BitVec.ofNat 64 r1) (BitVec.ofNat 64 r2)) (exF (exRow x0 x1 (BitVec.ofNat 64 r1) (exAll x0 x1 r1) r2) (ex5 (BitVec.ofNat 64 r1) (BitVec.ofNat 64 r2)))).c2))), some (.int .u64 (tn ((exD (exRow x0 x1 (BitVec.ofNat 64 r1) (exAll x0 x1 r1) r2).d (ex5 (BitVec.ofNat 64 r1) (BitVec.ofNat 64 r2)) (exF (exRow x0 x1 (BitVec.ofNat 64 r1) (exAll x0 x1 r1) r2) (ex5 (BitVec.ofNat 64 r1) (BitVec.ofNat 64 r2)))).c3))), some (.int .u64 (tn ((exD (exRow x0 x1 (BitVec.ofNat 64 r1) (exAll x0 x1 r1) r2).d (ex5 (BitVec.ofNat 64 r1) (BitVec.ofNat 64 r2)) (exF (exRow x0 x1 (BitVec.ofNat 64 r1) (exAll x0 x1 r1) r2) (ex5 (BitVec.ofNat 64 r1) (BitVec.ofNat 64 r2)))).c4)))], 32⟩, ⟨k3, [some (.int .u64 (tn ((BitVec.ofNat 64 r1) + (BitVec.ofNat 64 r2)))), some (.int .u64 (tn ((BitVec.ofNat 64 r1) - (BitVec.ofNat 64 r2)))), some (.int .u64 (tn ((BitVec.ofNat 64 r1) &&& (BitVec.ofNat 64 r2)))), some (.int .u64 (tn ((BitVec.ofNat 64 r1) ||| (BitVec.ofNat 64 r2)))), some (.int .u64 (tn ((BitVec.ofNat 64 r1) ^^^ (BitVec.ofNat 64 r2))))], 32⟩] W from (by have h := HS.out; rw [hN3.out] at h; exact h))
         go_upto_region 13 with fail
         refine lnb HS.out rfl ?_
         refine lm 0 11 rfl rfl rfl rfl ?_
         simp only [sA, sB]
         refine lv 1 (.bool false) rfl rfl (by intro x hx; go_simp; (first | done | omega | (simp; omega))) ?_
         simp only [sA, sB]
         clear HS
         refine ld fun W11 HS => ?_
         go_upto_region 18 with fail
         refine lnb HS.out rfl ?_
         refine lm 0 7 rfl rfl rfl rfl ?_
         simp only [sA, sB]
         refine lv 1 (.int .i64 ((((exRow x0 x1 (BitVec.ofNat 64 r1) (exAll x0 x1 r1) r2).n) + 1 : Nat) : Int)) rfl rfl (by intro x hx; go_simp; (first | done | exact addN ((exRow x0 x1 (BitVec.ofNat 64 r1) (exAll x0 x1 r1) r2).n) 1 (by omega) | exact congrArg _ (addN ((exRow x0 x1 (BitVec.ofNat 64 r1) (exAll x0 x1 r1) r2).n) 1 (by omega)) | (rw [addN ((exRow x0 x1 (BitVec.ofNat 64 r1) (exAll x0 x1 r1) r2).n) 1 (by omega)]; done) | (rw [addN ((exRow x0 x1 (BitVec.ofNat 64 r1) (exAll x0 x1 r1) r2).n) 1 (by omega)]; rfl))) ?_
         simp only [sA, sB]
         refine la 2 73 rfl rfl rfl rfl ?_
         simp only [sA, sB]
         clear HS
         refine ld fun W12 HS => ?_
         go_upto_region 9 with fail
         refine lnb HS.out rfl ?_
         refine lm 0 9 rfl rfl rfl rfl ?_
         simp only [sA, sB]
         refine lv 1 (.int .u64 (tn ((BitVec.ofNat 64 r2) + 1#64))) rfl rfl (by intro x hx; go_simp; (first | done | exact addUT (BitVec.ofNat 64 r2) 1#64 | exact congrArg _ (addUT (BitVec.ofNat 64 r2) 1#64) | (rw [addUT (BitVec.ofNat 64 r2) 1#64]; done) | (rw [addUT (BitVec.ofNat 64 r2) 1#64]; rfl))) ?_
         simp only [sA, sB]
         refine la 2 21 rfl rfl rfl rfl ?_
         simp only [sA, sB]
         clear HS
         refine ld fun W13 HS => ?_
         go_wp2
         rw [xn_next r2]
         rw [show (exRow x0 x1 (BitVec.ofNat 64 r1) (exAll x0 x1 r1) r2).n + 1 = (exRow x0 x1 (BitVec.ofNat 64 r1) (exAll x0 x1 r1) (r2 + 1)).n from (congrArg Ex.n (exRow_yes (exIn_yes h1.out))).symm]
         exact ⟨hlt2, hid ⟨_, _, _, _, _, _, _, _, _, _, _, _, _, _, _, _, _, _, _, _, _, _, _, _, _, _, _, _, _, _, _, _, _, _, _, _, _, _, _, _, _, _, _, _, _, _, _, _, _, _, _, _, _, _, _, _, _, _, rfl, (by rw [exRow_yes (exIn_yes h1.out)]; exact St.fewer (m := [_]) HS.out)⟩⟩
      ·replace h1 := hid h1
       go_upto_region 9 with fail
       refine lnb HS.out rfl ?_
       refine lm 0 9 rfl rfl rfl rfl ?_
       simp only [sA, sB]
       refine lv 1 (.int .u64 (tn ((BitVec.ofNat 64 r2) + 1#64))) rfl rfl (by intro x hx; go_simp; (first | done | exact addUT (BitVec.ofNat 64 r2) 1#64 | exact congrArg _ (addUT (BitVec.ofNat 64 r2) 1#64) | (rw [addUT (BitVec.ofNat 64 r2) 1#64]; done) | (rw [addUT (BitVec.ofNat 64 r2) 1#64]; rfl))) ?_
       simp only [sA, sB]
       refine la 2 21 rfl rfl rfl rfl ?_
       simp only [sA, sB]
       clear HS
       refine ld fun W9 HS => ?_
       go_wp2
       rw [xn_next r2]
       rw [show (exRow x0 x1 (BitVec.ofNat 64 r1) (exAll x0 x1 r1) r2).n = (exRow x0 x1 (BitVec.ofNat 64 r1) (exAll x0 x1 r1) (r2 + 1)).n from (congrArg Ex.n (exRow_no (exIn_no h1.out))).symm]
       exact ⟨hlt2, hid ⟨_, _, _, _, _, _, _, _, _, _, _, _, _, _, _, _, _, _, _, _, _, _, _, _, _, _, _, _, _, _, _, _, _, _, _, _, _, _, _, _, _, _, _, _, _, _, _, _, _, _, _, _, _, _, _, _, _, _, rfl, (by rw [exRow_no (exIn_no h1.out)]; exact HS.out)⟩⟩
    · have hN2 := hid (show r2 = 8 by omega)
      replace HS := hid (show St w [⟨w.heap.size, [some (.int .u64 (tn (x0.lo))), some (.int .u64 (tn (x0.hi)))], 24⟩, ⟨w.heap.size + 1, [some (.int .u64 (tn (x1.lo))), some (.int .u64 (tn (x1.hi)))], 24⟩, ⟨k1, [some (.int .u64 (tn ((exAll x0 x1 (r1 + 1)).f.c0))), some (.int .u64 (tn ((exAll x0 x1 (r1 + 1)).f.c1))), some (.int .u64 (tn ((exAll x0 x1 (r1 + 1)).f.c2))), some (.int .u64 (tn ((exAll x0 x1 (r1 + 1)).f.c3))), some (.int .u64 (tn ((exAll x0 x1 (r1 + 1)).f.c4)))], 32⟩, ⟨k2, [some (.int .u64 (tn ((exAll x0 x1 (r1 + 1)).d.c0))), some (.int .u64 (tn ((exAll x0 x1 (r1 + 1)).d.c1))), some (.int .u64 (tn ((exAll x0 x1 (r1 + 1)).d.c2))), some (.int .u64 (tn ((exAll x0 x1 (r1 + 1)).d.c3))), some (.int .u64 (tn ((exAll x0 x1 (r1 + 1)).d.c4)))], 32⟩] W from (by have h := HS.out; rw [hN2.out] at h; exact h))
      go_upto_region 8 with fail
      refine lnb HS.out rfl ?_
      refine lm 0 9 rfl rfl rfl rfl ?_
      simp only [sA, sB]
      refine lv 1 (.bool false) rfl rfl (by intro x hx; go_simp; (first | done | (first | exact xn_end hN2.out | exact eq_of_beq (xn_end hN2.out) | exact congrArg _ (xn_end hN2.out) | (rw [xn_end hN2.out]; done) | ((first | rfl | exact ltUT (BitVec.ofNat 64 r2) 8#64 | exact congrArg _ (ltUT (BitVec.ofNat 64 r2) 8#64) | (rw [ltUT (BitVec.ofNat 64 r2) 8#64]; done) | (rw [ltUT (BitVec.ofNat 64 r2) 8#64]; rfl)); rw [xn_end hN2.out]) | exact congrArg tn (eq_of_beq (xn_end hN2.out)) | exact congrArg ti (eq_of_beq (xn_end hN2.out)) | exact congrArg tn (eq_of_bne (xn_end hN2.out)) | exact of_decide_eq_true (xn_end hN2.out) | exact Int.not_le.1 (of_decide_eq_false (xn_end hN2.out)) | exact Int.not_lt.1 (of_decide_eq_false (xn_end hN2.out)) | simpa using (xn_end hN2.out)))) ?_
      simp only [sA, sB]
      clear HS
      refine ld fun W7 HS => ?_
      go_upto_region 6 with fail
      refine lnb HS.out rfl ?_
      refine lm 0 8 rfl rfl rfl rfl ?_
      simp only [sA, sB]
      refine lv 1 (.int .u64 (tn ((BitVec.ofNat 64 r1) + 1#64))) rfl rfl (by intro x hx; go_simp; (first | done | exact addUT (BitVec.ofNat 64 r1) 1#64 | exact congrArg _ (addUT (BitVec.ofNat 64 r1) 1#64) | (rw [addUT (BitVec.ofNat 64 r1) 1#64]; done) | (rw [addUT (BitVec.ofNat 64 r1) 1#64]; rfl))) ?_
      simp only [sA, sB]
      refine la 2 17 rfl rfl rfl rfl ?_
      simp only [sA, sB]
      clear HS
      refine ld fun W8 HS => ?_
      go_wp2
      rw [xn_next r1]
      rw [show (exRow x0 x1 (BitVec.ofNat 64 r1) (exAll x0 x1 r1) r2).n = (exAll x0 x1 (r1 + 1)).n from by rw [hN2.out]; rfl]
      exact ⟨hlt1, hid ⟨_, _, _, _, _, _, _, _, _, _, _, _, _, _, _, _, _, _, _, _, _, _, _, _, _, _, _, _, _, _, _, _, _, _, _, _, _, _, _, _, _, _, _, _, _, _, _, _, _, _, _, _, _, _, _, _, _, _, _, _, _, _, _, rfl, HS.out⟩⟩
  · have hN1 := hid (show r1 = 8 by omega)
    replace HS := hid (show St w [⟨w.heap.size, [some (.int .u64 (tn (x0.lo))), some (.int .u64 (tn (x0.hi)))], 24⟩, ⟨w.heap.size + 1, [some (.int .u64 (tn (x1.lo))), some (.int .u64 (tn (x1.hi)))], 24⟩, ⟨k1, [some (.int .u64 (tn ((exAll x0 x1 8).f.c0))), some (.int .u64 (tn ((exAll x0 x1 8).f.c1))), some (.int .u64 (tn ((exAll x0 x1 8).f.c2))), some (.int .u64 (tn ((exAll x0 x1 8).f.c3))), some (.int .u64 (tn ((exAll x0 x1 8).f.c4)))], 32⟩, ⟨k2, [some (.int .u64 (tn ((exAll x0 x1 8).d.c0))), some (.int .u64 (tn ((exAll x0 x1 8).d.c1))), some (.int .u64 (tn ((exAll x0 x1 8).d.c2))), some (.int .u64 (tn ((exAll x0 x1 8).d.c3))), some (.int .u64 (tn ((exAll x0 x1 8).d.c4)))], 32⟩] W from (by have h := HS.out; rw [hN1.out] at h; exact h))
    go_upto_region 5 with fail
    refine lnb HS.out rfl ?_
    refine lm 0 8 rfl rfl rfl rfl ?_
    simp only [sA, sB]
    refine lv 1 (.bool false) rfl rfl (by intro x hx; go_simp; (first | done | (first | exact xn_end hN1.out | exact eq_of_beq (xn_end hN1.out) | exact congrArg _ (xn_end hN1.out) | (rw [xn_end hN1.out]; done) | ((first | rfl | exact ltUT (BitVec.ofNat 64 r1) 8#64 | exact congrArg _ (ltUT (BitVec.ofNat 64 r1) 8#64) | (rw [ltUT (BitVec.ofNat 64 r1) 8#64]; done) | (rw [ltUT (BitVec.ofNat 64 r1) 8#64]; rfl)); rw [xn_end hN1.out]) | exact congrArg tn (eq_of_beq (xn_end hN1.out)) | exact congrArg ti (eq_of_beq (xn_end hN1.out)) | exact congrArg tn (eq_of_bne (xn_end hN1.out)) | exact of_decide_eq_true (xn_end hN1.out) | exact Int.not_le.1 (of_decide_eq_false (xn_end hN1.out)) | exact Int.not_lt.1 (of_decide_eq_false (xn_end hN1.out)) | simpa using (xn_end hN1.out)))) ?_
    simp only [sA, sB]
    clear HS
    refine ld fun W5 HS => ?_
    go_upto_region 19 with fail
    refine upb 18 (HS.out.drew) rfl ?_
    refine tv 0 (vU x0) rfl rfl (by intro x hx; obtain ⟨f0, f1⟩ := hx.two 0 0 rfl rfl; go_simp; (first | done | exact rfl)) ?_
    simp only [sA, sB, vU]
    refine tv 1 (vU x1) rfl rfl (by intro x hx; obtain ⟨f0, f1⟩ := hx.two 1 0 rfl rfl; go_simp; (first | done | exact rfl)) ?_
    simp only [sA, sB, vU]
    refine tc 2 14 #[vU x0, vU x1] (vU (tnAdd x0 x1)) rfl rfl (by intro x hx; exact tnAdd_any x0 x1 _) ?_
    simp only [sA, sB, vU]
    refine tv 3 (vU x0) rfl rfl (by intro x hx; obtain ⟨f0, f1⟩ := hx.two 0 0 rfl rfl; go_simp; (first | done | exact rfl)) ?_
    simp only [sA, sB, vU]
    refine tv 4 (vU x1) rfl rfl (by intro x hx; obtain ⟨f0, f1⟩ := hx.two 1 0 rfl rfl; go_simp; (first | done | exact rfl)) ?_
    simp only [sA, sB, vU]
    refine tc 5 11 #[vU x0, vU x1] (vU (tnSub x0 x1)) rfl rfl (by intro x hx; exact tnSub_any x0 x1 _) ?_
    simp only [sA, sB, vU]
    refine tv 6 (vU x0) rfl rfl (by intro x hx; obtain ⟨f0, f1⟩ := hx.two 0 0 rfl rfl; go_simp; (first | done | exact rfl)) ?_
    simp only [sA, sB, vU]
    refine tv 7 (vU x1) rfl rfl (by intro x hx; obtain ⟨f0, f1⟩ := hx.two 1 0 rfl rfl; go_simp; (first | done | exact rfl)) ?_
    simp only [sA, sB, vU]
    refine tc 8 15 #[vU x0, vU x1] (vU (tnAnd x0 x1)) rfl rfl (by intro x hx; exact tnAnd_any x0 x1 _) ?_
    simp only [sA, sB, vU]
    refine tv 9 (vU x0) rfl rfl (by intro x hx; obtain ⟨f0, f1⟩ := hx.two 0 0 rfl rfl; go_simp; (first | done | exact rfl)) ?_
    simp only [sA, sB, vU]
    refine tv 10 (vU x1) rfl rfl (by intro x hx; obtain ⟨f0, f1⟩ := hx.two 1 0 rfl rfl; go_simp; (first | done | exact rfl)) ?_
    simp only [sA, sB, vU]
    refine tc 11 16 #[vU x0, vU x1] (vU (tnOr x0 x1)) rfl rfl (by intro x hx; exact tnOr_any x0 x1 _) ?_
    simp only [sA, sB, vU]
    refine tv 12 (vU x0) rfl rfl (by intro x hx; obtain ⟨f0, f1⟩ := hx.two 0 0 rfl rfl; go_simp; (first | done | exact rfl)) ?_
    simp only [sA, sB, vU]
    refine tv 13 (vU x1) rfl rfl (by intro x hx; obtain ⟨f0, f1⟩ := hx.two 1 0 rfl rfl; go_simp; (first | done | exact rfl)) ?_
    simp only [sA, sB, vU]
    refine tc 14 17 #[vU x0, vU x1] (vU (tnXor x0 x1)) rfl rfl (by intro x hx; exact tnXor_any x0 x1 _) ?_
    simp only [sA, sB, vU]
    refine tv 15 (.agg #[.int .u64 (tn ((tnAdd x0 x1).lo)), .int .u64 (tn ((tnAdd x0 x1).hi)), .int .u64 (tn ((tnSub x0 x1).lo)), .int .u64 (tn ((tnSub x0 x1).hi)), .int .u64 (tn ((tnAnd x0 x1).lo)), .int .u64 (tn ((tnAnd x0 x1).hi)), .int .u64 (tn ((tnOr x0 x1).lo)), .int .u64 (tn ((tnOr x0 x1).hi)), .int .u64 (tn ((tnXor x0 x1).lo)), .int .u64 (tn ((tnXor x0 x1).hi))]) rfl rfl (by intro x hx; go_simp; (first | done | exact rfl)) ?_
    simp only [sA, sB]
    refine take_one (i := 16) (by kernel_rfl) (step_new rfl rfl (by rfl) [.int .u64 0, .int .u64 0, .int .u64 0, .int .u64 0, .int .u64 0, .int .u64 0, .int .u64 0, .int .u64 0, .int .u64 0, .int .u64 0] 34 (fun k => .pointer (some ⟨k, 0, none⟩)) [none, none, none, none, none, none, none, none, none, none] (lessC_no (lessC_no (lessC_no (lessC_no (lessC_no (lessC_no (lessC_no (lessC_no (lessC_no (lessC_no (trivial))))))))))) (by intro x hx; go_simp; (first | done | exact rfl)) (fun k3 => ?_))
    simp only [sA, sB, sC, sD]
    refine ts 17 4 0 [.int .u64 (tn ((tnAdd x0 x1).lo)), .int .u64 (tn ((tnAdd x0 x1).hi)), .int .u64 (tn ((tnSub x0 x1).lo)), .int .u64 (tn ((tnSub x0 x1).hi)), .int .u64 (tn ((tnAnd x0 x1).lo)), .int .u64 (tn ((tnAnd x0 x1).hi)), .int .u64 (tn ((tnOr x0 x1).lo)), .int .u64 (tn ((tnOr x0 x1).hi)), .int .u64 (tn ((tnXor x0 x1).lo)), .int .u64 (tn ((tnXor x0 x1).hi))] rfl rfl rfl (by intro x hx; obtain ⟨_, z0, q0⟩ := hx.at1 4 0 rfl; obtain ⟨_, z1, q1⟩ := hx.at1 4 1 rfl; obtain ⟨_, z2, q2⟩ := hx.at1 4 2 rfl; obtain ⟨_, z3, q3⟩ := hx.at1 4 3 rfl; obtain ⟨_, z4, q4⟩ := hx.at1 4 4 rfl; obtain ⟨_, z5, q5⟩ := hx.at1 4 5 rfl; obtain ⟨_, z6, q6⟩ := hx.at1 4 6 rfl; obtain ⟨_, z7, q7⟩ := hx.at1 4 7 rfl; obtain ⟨_, z8, q8⟩ := hx.at1 4 8 rfl; obtain ⟨_, z9, q9⟩ := hx.at1 4 9 rfl; go_simp; (first | done | rfl)) ?_
    simp only [Blk.putC, setM, sA, sB]
    clear HS
    refine td fun W6 HS => ?_
    go_upto_region 20 with fail
    refine lnb HS.out rfl ?_
    refine lv 0 (.int .i64 0) rfl rfl (by intro x hx; go_simp; (first | done | exact rfl)) ?_
    simp only [sA, sB]
    clear HS
    refine ld fun W7 HS => ?_
    go_wp2
    refine wp_loop_rounds 70 ?_
    rw [rounds_succ]
    go_upto_region 21 with fail
    refine lnb HS.out rfl ?_
    refine lm 0 13 rfl rfl rfl rfl ?_
    simp only [sA, sB]
    refine lv 1 (.bool true) rfl rfl (by intro x hx; go_simp; (first | done | exact rfl)) ?_
    simp only [sA, sB]
    clear HS
    refine ld fun W8 HS => ?_
    go_upto_region 23 with fail
    refine upb 22 (HS.out.drew) rfl ?_
    refine tm 0 13 rfl rfl rfl rfl ?_
    simp only [sA, sB]
    refine tv 1 (.pointer (some ⟨k3, 0, none⟩)) rfl rfl (by intro x hx; go_simp; (first | done | exact rfl)) ?_
    simp only [sA, sB]
    refine tv 2 (.pointer (some ⟨k3, 1, none⟩)) rfl rfl (by intro x hx; go_simp; (first | done | exact rfl)) ?_
    simp only [sA, sB]
    refine tv 3 (.int .u64 (tn ((tnAdd x0 x1).hi))) rfl rfl (by intro x hx; have f0 := hx.load 4 1 rfl rfl; go_simp; (first | done | exact rfl)) ?_
    simp only [sA, sB]
    refine tm 4 13 rfl rfl rfl rfl ?_
    simp only [sA, sB]
    refine tv 5 (.pointer (some ⟨k2, 0, none⟩)) rfl rfl (by intro x hx; go_simp; (first | done | exact rfl)) ?_
    simp only [sA, sB]
    refine tv 6 (.int .u64 (tn ((exAll x0 x1 8).d.c0))) rfl rfl (by intro x hx; have f0 := hx.load 3 0 rfl rfl; go_simp; (first | done | exact rfl)) ?_
    simp only [sA, sB]
    refine tv 7 (.bool ((((tnAdd x0 x1).hi) != ((exAll x0 x1 8).d.c0)))) rfl rfl (by intro x hx; go_simp; (first | done | exact neUT ((tnAdd x0 x1).hi) ((exAll x0 x1 8).d.c0) | exact congrArg _ (neUT ((tnAdd x0 x1).hi) ((exAll x0 x1 8).d.c0)) | (rw [neUT ((tnAdd x0 x1).hi) ((exAll x0 x1 8).d.c0)]; done) | (rw [neUT ((tnAdd x0 x1).hi) ((exAll x0 x1 8).d.c0)]; rfl))) ?_
    simp only [sA, sB]
    refine tm 8 101 rfl rfl rfl rfl ?_
    simp only [sA, sB]
    refine take_if (i := 9) (v := .int .i64 0) (!(((tnAdd x0 x1).hi) != ((exAll x0 x1 8).d.c0))) (st_ups _ _) rfl rfl (by kernel_rfl) (fun _ _ _ _ h => h) (by generalize (((tnAdd x0 x1).hi) != ((exAll x0 x1 8).d.c0)) = gg0; cases gg0 <;> rfl) (by intro hb; have hb253 := hid (show ((((tnAdd x0 x1).hi) != ((exAll x0 x1 8).d.c0))) = false from nnb hb); intro x hx; (try simp only [hb]); (try simp only [cond_true]); go_simp; (first | done | exact rfl)) ?_
    simp only [sA, sB]
    refine take_if (i := 10) (v := .pointer (some ⟨k3, 0, none⟩)) (!(((tnAdd x0 x1).hi) != ((exAll x0 x1 8).d.c0))) (st_ups _ _) rfl rfl (by kernel_rfl) (fun _ _ _ _ h => h) (by generalize (((tnAdd x0 x1).hi) != ((exAll x0 x1 8).d.c0)) = gg0; cases gg0 <;> rfl) (by intro hb; have hb254 := hid (show ((((tnAdd x0 x1).hi) != ((exAll x0 x1 8).d.c0))) = false from nnb hb); intro x hx; (try simp only [hb]); (try simp only [cond_true]); go_simp; (first | done | exact rfl)) ?_
    simp only [sA, sB]
    refine take_if (i := 11) (v := .pointer (some ⟨k3, 0, none⟩)) (!(((tnAdd x0 x1).hi) != ((exAll x0 x1 8).d.c0))) (st_ups _ _) rfl rfl (by kernel_rfl) (fun _ _ _ _ h => h) (by generalize (((tnAdd x0 x1).hi) != ((exAll x0 x1 8).d.c0)) = gg0; cases gg0 <;> rfl) (by intro hb; have hb255 := hid (show ((((tnAdd x0 x1).hi) != ((exAll x0 x1 8).d.c0))) = false from nnb hb); intro x hx; (try simp only [hb]); (try simp only [cond_true]); go_simp; (first | done | exact rfl)) ?_
    simp only [sA, sB]
    refine take_if (i := 12) (v := .int .u64 (tn ((tnAdd x0 x1).lo))) (!(((tnAdd x0 x1).hi) != ((exAll x0 x1 8).d.c0))) (st_ups _ _) rfl rfl (by kernel_rfl) (fun _ _ _ _ h => h) (by generalize (((tnAdd x0 x1).hi) != ((exAll x0 x1 8).d.c0)) = gg0; cases gg0 <;> rfl) (by intro hb; have hb256 := hid (show ((((tnAdd x0 x1).hi) != ((exAll x0 x1 8).d.c0))) = false from nnb hb); intro x hx; (try simp only [hb]); (try simp only [cond_true]); have f0 := hx.load 4 0 rfl rfl; go_simp; (first | done | exact rfl)) ?_
    simp only [sA, sB]
    refine take_if (i := 13) (v := .int .i64 0) (!(((tnAdd x0 x1).hi) != ((exAll x0 x1 8).d.c0))) (st_ups _ _) rfl rfl (by kernel_rfl) (fun _ _ _ _ h => h) (by generalize (((tnAdd x0 x1).hi) != ((exAll x0 x1 8).d.c0)) = gg0; cases gg0 <;> rfl) (by intro hb; have hb257 := hid (show ((((tnAdd x0 x1).hi) != ((exAll x0 x1 8).d.c0))) = false from nnb hb); intro x hx; (try simp only [hb]); (try simp only [cond_true]); go_simp; (first | done | exact rfl)) ?_
    simp only [sA, sB]
    refine take_if (i := 14) (v := .pointer (some ⟨k1, 0, none⟩)) (!(((tnAdd x0 x1).hi) != ((exAll x0 x1 8).d.c0))) (st_ups _ _) rfl rfl (by kernel_rfl) (fun _ _ _ _ h => h) (by generalize (((tnAdd x0 x1).hi) != ((exAll x0 x1 8).d.c0)) = gg0; cases gg0 <;> rfl) (by intro hb; have hb258 := hid (show ((((tnAdd x0 x1).hi) != ((exAll x0 x1 8).d.c0))) = false from nnb hb); intro x hx; (try simp only [hb]); (try simp only [cond_true]); go_simp; (first | done | exact rfl)) ?_
    simp only [sA, sB]
    refine take_if (i := 15) (v := .int .u64 (tn ((exAll x0 x1 8).f.c0))) (!(((tnAdd x0 x1).hi) != ((exAll x0 x1 8).d.c0))) (st_ups _ _) rfl rfl (by kernel_rfl) (fun _ _ _ _ h => h) (by generalize (((tnAdd x0 x1).hi) != ((exAll x0 x1 8).d.c0)) = gg0; cases gg0 <;> rfl) (by intro hb; have hb259 := hid (show ((((tnAdd x0 x1).hi) != ((exAll x0 x1 8).d.c0))) = false from nnb hb); intro x hx; (try simp only [hb]); (try simp only [cond_true]); have f0 := hx.load 2 0 rfl rfl; go_simp; (first | done | exact rfl)) ?_
    simp only [sA, sB]
    refine take_if (i := 16) (v := .int .i64 0) (!(((tnAdd x0 x1).hi) != ((exAll x0 x1 8).d.c0))) (st_ups _ _) rfl rfl (by kernel_rfl) (fun _ _ _ _ h => h) (by generalize (((tnAdd x0 x1).hi) != ((exAll x0 x1 8).d.c0)) = gg0; cases gg0 <;> rfl) (by intro hb; have hb260 := hid (show ((((tnAdd x0 x1).hi) != ((exAll x0 x1 8).d.c0))) = false from nnb hb); intro x hx; (try simp only [hb]); (try simp only [cond_true]); go_simp; (first | done | exact rfl)) ?_
    simp only [sA, sB]
    refine take_if (i := 17) (v := .pointer (some ⟨k2, 0, none⟩)) (!(((tnAdd x0 x1).hi) != ((exAll x0 x1 8).d.c0))) (st_ups _ _) rfl rfl (by kernel_rfl) (fun _ _ _ _ h => h) (by generalize (((tnAdd x0 x1).hi) != ((exAll x0 x1 8).d.c0)) = gg0; cases gg0 <;> rfl) (by intro hb; have hb261 := hid (show ((((tnAdd x0 x1).hi) != ((exAll x0 x1 8).d.c0))) = false from nnb hb); intro x hx; (try simp only [hb]); (try simp only [cond_true]); go_simp; (first | done | exact rfl)) ?_
    simp only [sA, sB]
    refine take_if (i := 18) (v := .int .u64 (tn ((exAll x0 x1 8).d.c0))) (!(((tnAdd x0 x1).hi) != ((exAll x0 x1 8).d.c0))) (st_ups _ _) rfl rfl (by kernel_rfl) (fun _ _ _ _ h => h) (by generalize (((tnAdd x0 x1).hi) != ((exAll x0 x1 8).d.c0)) = gg0; cases gg0 <;> rfl) (by intro hb; have hb262 := hid (show ((((tnAdd x0 x1).hi) != ((exAll x0 x1 8).d.c0))) = false from nnb hb); intro x hx; (try simp only [hb]); (try simp only [cond_true]); have f0 := hx.load 3 0 rfl rfl; go_simp; (first | done | exact rfl)) ?_
    simp only [sA, sB]
    refine take_if (i := 19) (v := .int .u64 (tn (((exAll x0 x1 8).f.c0) &&& ~~~((exAll x0 x1 8).d.c0)))) (!(((tnAdd x0 x1).hi) != ((exAll x0 x1 8).d.c0))) (st_ups _ _) rfl rfl (by kernel_rfl) (fun _ _ _ _ h => h) (by generalize (((tnAdd x0 x1).hi) != ((exAll x0 x1 8).d.c0)) = gg0; cases gg0 <;> rfl) (by intro hb; have hb263 := hid (show ((((tnAdd x0 x1).hi) != ((exAll x0 x1 8).d.c0))) = false from nnb hb); intro x hx; (try simp only [hb]); (try simp only [cond_true]); go_simp; (first | done | exact andNotUT ((exAll x0 x1 8).f.c0) ((exAll x0 x1 8).d.c0) | exact congrArg _ (andNotUT ((exAll x0 x1 8).f.c0) ((exAll x0 x1 8).d.c0)) | (rw [andNotUT ((exAll x0 x1 8).f.c0) ((exAll x0 x1 8).d.c0)]; done) | (rw [andNotUT ((exAll x0 x1 8).f.c0) ((exAll x0 x1 8).d.c0)]; rfl))) ?_
    simp only [sA, sB]
    refine take_if (i := 20) (v := .bool ((((tnAdd x0 x1).lo) != (((exAll x0 x1 8).f.c0) &&& ~~~((exAll x0 x1 8).d.c0))))) (!(((tnAdd x0 x1).hi) != ((exAll x0 x1 8).d.c0))) (st_ups _ _) rfl rfl (by kernel_rfl) (fun _ _ _ _ h => h) (by generalize (((tnAdd x0 x1).hi) != ((exAll x0 x1 8).d.c0)) = gg0; cases gg0 <;> rfl) (by intro hb; have hb264 := hid (show ((((tnAdd x0 x1).hi) != ((exAll x0 x1 8).d.c0))) = false from nnb hb); intro x hx; (try simp only [hb]); (try simp only [cond_true]); go_simp; (first | done | exact neUT ((tnAdd x0 x1).lo) (((exAll x0 x1 8).f.c0) &&& ~~~((exAll x0 x1 8).d.c0)) | exact congrArg _ (neUT ((tnAdd x0 x1).lo) (((exAll x0 x1 8).f.c0) &&& ~~~((exAll x0 x1 8).d.c0))) | (rw [neUT ((tnAdd x0 x1).lo) (((exAll x0 x1 8).f.c0) &&& ~~~((exAll x0 x1 8).d.c0))]; done) | (rw [neUT ((tnAdd x0 x1).lo) (((exAll x0 x1 8).f.c0) &&& ~~~((exAll x0 x1 8).d.c0))]; rfl))) ?_
    simp only [sA, sB]
    refine tv 21 (.bool ((bif (((tnAdd x0 x1).hi) != ((exAll x0 x1 8).d.c0)) then true else (((tnAdd x0 x1).lo) != (((exAll x0 x1 8).f.c0) &&& ~~~((exAll x0 x1 8).d.c0)))))) rfl rfl (by intro x hx; (cases hq : ((((tnAdd x0 x1).hi) != ((exAll x0 x1 8).d.c0))) <;> first | rfl | (simp only [hq]; rfl) | simp [hq])) ?_
    simp only [sA, sB]
    clear HS
    refine td fun W9 HS => ?_
    cases h1 : ((bif (((tnAdd x0 x1).hi) != ((exAll x0 x1 8).d.c0)) then true else (((tnAdd x0 x1).lo) != (((exAll x0 x1 8).f.c0) &&& ~~~((exAll x0 x1 8).d.c0)))))
    ·replace h1 := hid h1
     go_upto_region 22 with fail
     refine lnb HS.out rfl ?_
     refine lm 0 13 rfl rfl rfl rfl ?_
     simp only [sA, sB]
     refine lv 1 (.int .i64 1) rfl rfl (by intro x hx; go_simp; (first | done | exact rfl)) ?_
     simp only [sA, sB]
     refine la 2 93 rfl rfl rfl rfl ?_
     simp only [sA, sB]
     clear HS
     refine ld fun W10 HS => ?_
     go_wp2
     rw [rounds_succ]
     go_upto_region 21 with fail
     refine lnb HS.out rfl ?_
     refine lm 0 13 rfl rfl rfl rfl ?_
     simp only [sA, sB]
     refine lv 1 (.bool true) rfl rfl (by intro x hx; go_simp; (first | done | exact rfl)) ?_
     simp only [sA, sB]
     clear HS
     refine ld fun W11 HS => ?_
     go_upto_region 23 with fail
     refine upb 22 (HS.out.drew) rfl ?_
     refine tm 0 13 rfl rfl rfl rfl ?_
     simp only [sA, sB]
     refine tv 1 (.pointer (some ⟨k3, 2, none⟩)) rfl rfl (by intro x hx; go_simp; (first | done | exact rfl)) ?_
     simp only [sA, sB]
     refine tv 2 (.pointer (some ⟨k3, 3, none⟩)) rfl rfl (by intro x hx; go_simp; (first | done | exact rfl)) ?_
     simp only [sA, sB]
     refine tv 3 (.int .u64 (tn ((tnSub x0 x1).hi))) rfl rfl (by intro x hx; have f0 := hx.load 4 3 rfl rfl; go_simp; (first | done | exact rfl)) ?_
     simp only [sA, sB]
     refine tm 4 13 rfl rfl rfl rfl ?_
     simp only [sA, sB]
     refine tv 5 (.pointer (some ⟨k2, 1, none⟩)) rfl rfl (by intro x hx; go_simp; (first | done | exact rfl)) ?_
     simp only [sA, sB]
     refine tv 6 (.int .u64 (tn ((exAll x0 x1 8).d.c1))) rfl rfl (by intro x hx; have f0 := hx.load 3 1 rfl rfl; go_simp; (first | done | exact rfl)) ?_
     simp only [sA, sB]
     refine tv 7 (.bool ((((tnSub x0 x1).hi) != ((exAll x0 x1 8).d.c1)))) rfl rfl (by intro x hx; go_simp; (first | done | exact neUT ((tnSub x0 x1).hi) ((exAll x0 x1 8).d.c1) | exact congrArg _ (neUT ((tnSub x0 x1).hi) ((exAll x0 x1 8).d.c1)) | (rw [neUT ((tnSub x0 x1).hi) ((exAll x0 x1 8).d.c1)]; done) | (rw [neUT ((tnSub x0 x1).hi) ((exAll x0 x1 8).d.c1)]; rfl))) ?_
     simp only [sA, sB]
     refine tm 8 101 rfl rfl rfl rfl ?_
     simp only [sA, sB]
     refine take_if (i := 9) (v := .int .i64 1) (!(((tnSub x0 x1).hi) != ((exAll x0 x1 8).d.c1))) (st_ups _ _) rfl rfl (by kernel_rfl) (fun _ _ _ _ h => h) (by generalize (((tnSub x0 x1).hi) != ((exAll x0 x1 8).d.c1)) = gg0; cases gg0 <;> rfl) (by intro hb; have hb265 := hid (show ((((tnSub x0 x1).hi) != ((exAll x0 x1 8).d.c1))) = false from nnb hb); intro x hx; (try simp only [hb]); (try simp only [cond_true]); go_simp; (first | done | exact rfl)) ?_
     simp only [sA, sB]
     refine take_if (i := 10) (v := .pointer (some ⟨k3, 2, none⟩)) (!(((tnSub x0 x1).hi) != ((exAll x0 x1 8).d.c1))) (st_ups _ _) rfl rfl (by kernel_rfl) (fun _ _ _ _ h => h) (by generalize (((tnSub x0 x1).hi) != ((exAll x0 x1 8).d.c1)) = gg0; cases gg0 <;> rfl) (by intro hb; have hb266 := hid (show ((((tnSub x0 x1).hi) != ((exAll x0 x1 8).d.c1))) = false from nnb hb); intro x hx; (try simp only [hb]); (try simp only [cond_true]); go_simp; (first | done | exact rfl)) ?_
     simp only [sA, sB]
     refine take_if (i := 11) (v := .pointer (some ⟨k3, 2, none⟩)) (!(((tnSub x0 x1).hi) != ((exAll x0 x1 8).d.c1))) (st_ups _ _) rfl rfl (by kernel_rfl) (fun _ _ _ _ h => h) (by generalize (((tnSub x0 x1).hi) != ((exAll x0 x1 8).d.c1)) = gg0; cases gg0 <;> rfl) (by intro hb; have hb267 := hid (show ((((tnSub x0 x1).hi) != ((exAll x0 x1 8).d.c1))) = false from nnb hb); intro x hx; (try simp only [hb]); (try simp only [cond_true]); go_simp; (first | done | exact rfl)) ?_
     simp only [sA, sB]
     refine take_if (i := 12) (v := .int .u64 (tn ((tnSub x0 x1).lo))) (!(((tnSub x0 x1).hi) != ((exAll x0 x1 8).d.c1))) (st_ups _ _) rfl rfl (by kernel_rfl) (fun _ _ _ _ h => h) (by generalize (((tnSub x0 x1).hi) != ((exAll x0 x1 8).d.c1)) = gg0; cases gg0 <;> rfl) (by intro hb; have hb268 := hid (show ((((tnSub x0 x1).hi) != ((exAll x0 x1 8).d.c1))) = false from nnb hb); intro x hx; (try simp only [hb]); (try simp only [cond_true]); have f0 := hx.load 4 2 rfl rfl; go_simp; (first | done | exact rfl)) ?_
     simp only [sA, sB]
     refine take_if (i := 13) (v := .int .i64 1) (!(((tnSub x0 x1).hi) != ((exAll x0 x1 8).d.c1))) (st_ups _ _) rfl rfl (by kernel_rfl) (fun _ _ _ _ h => h) (by generalize (((tnSub x0 x1).hi) != ((exAll x0 x1 8).d.c1)) = gg0; cases gg0 <;> rfl) (by intro hb; have hb269 := hid (show ((((tnSub x0 x1).hi) != ((exAll x0 x1 8).d.c1))) = false from nnb hb); intro x hx; (try simp only [hb]); (try simp only [cond_true]); go_simp; (first | done | exact rfl)) ?_
     simp only [sA, sB]
     refine take_if (i := 14) (v := .pointer (some ⟨k1, 1, none⟩)) (!(((tnSub x0 x1).hi) != ((exAll x0 x1 8).d.c1))) (st_ups _ _) rfl rfl (by kernel_rfl) (fun _ _ _ _ h => h) (by generalize (((tnSub x0 x1).hi) != ((exAll x0 x1 8).d.c1)) = gg0; cases gg0 <;> rfl) (by intro hb; have hb270 := hid (show ((((tnSub x0 x1).hi) != ((exAll x0 x1 8).d.c1))) = false from nnb hb); intro x hx; (try simp only [hb]); (try simp only [cond_true]); go_simp; (first | done | exact rfl)) ?_
     simp only [sA, sB]
     refine take_if (i := 15) (v := .int .u64 (tn ((exAll x0 x1 8).f.c1))) (!(((tnSub x0 x1).hi) != ((exAll x0 x1 8).d.c1))) (st_ups _ _) rfl rfl (by kernel_rfl) (fun _ _ _ _ h => h) (by generalize (((tnSub x0 x1).hi) != ((exAll x0 x1 8).d.c1)) = gg0; cases gg0 <;> rfl) (by intro hb; have hb271 := hid (show ((((tnSub x0 x1).hi) != ((exAll x0 x1 8).d.c1))) = false from nnb hb); intro x hx; (try simp only [hb]); (try simp only [cond_true]); have f0 := hx.load 2 1 rfl rfl; go_simp; (first | done | exact rfl)) ?_
     simp only [sA, sB]
     refine take_if (i := 16) (v := .int .i64 1) (!(((tnSub x0 x1).hi) != ((exAll x0 x1 8).d.c1))) (st_ups _ _) rfl rfl (by kernel_rfl) (fun _ _ _ _ h => h) (by generalize (((tnSub x0 x1).hi) != ((exAll x0 x1 8).d.c1)) = gg0; cases gg0 <;> rfl) (by intro hb; have hb272 := hid (show ((((tnSub x0 x1).hi) != ((exAll x0 x1 8).d.c1))) = false from nnb hb); intro x hx; (try simp only [hb]); (try simp only [cond_true]); go_simp; (first | done | exact rfl)) ?_
     simp only [sA, sB]
     refine take_if (i := 17) (v := .pointer (some ⟨k2, 1, none⟩)) (!(((tnSub x0 x1).hi) != ((exAll x0 x1 8).d.c1))) (st_ups _ _) rfl rfl (by kernel_rfl) (fun _ _ _ _ h => h) (by generalize (((tnSub x0 x1).hi) != ((exAll x0 x1 8).d.c1)) = gg0; cases gg0 <;> rfl) (by intro hb; have hb273 := hid (show ((((tnSub x0 x1).hi) != ((exAll x0 x1 8).d.c1))) = false from nnb hb); intro x hx; (try simp only [hb]); (try simp only [cond_true]); go_simp; (first | done | exact rfl)) ?_
     simp only [sA, sB]
     refine take_if (i := 18) (v := .int .u64 (tn ((exAll x0 x1 8).d.c1))) (!(((tnSub x0 x1).hi) != ((exAll x0 x1 8).d.c1))) (st_ups _ _) rfl rfl (by kernel_rfl) (fun _ _ _ _ h => h) (by generalize (((tnSub x0 x1).hi) != ((exAll x0 x1 8).d.c1)) = gg0; cases gg0 <;> rfl) (by intro hb; have hb274 := hid (show ((((tnSub x0 x1).hi) != ((exAll x0 x1 8).d.c1))) = false from nnb hb); intro x hx; (try simp only [hb]); (try simp only [cond_true]); have f0 := hx.load 3 1 rfl rfl; go_simp; (first | done | exact rfl)) ?_
     simp only [sA, sB]
     refine take_if (i := 19) (v := .int .u64 (tn (((exAll x0 x1 8).f.c1) &&& ~~~((exAll x0 x1 8).d.c1)))) (!(((tnSub x0 x1).hi) != ((exAll x0 x1 8).d.c1))) (st_ups _ _) rfl rfl (by kernel_rfl) (fun _ _ _ _ h => h) (by generalize (((tnSub x0 x1).hi) != ((exAll x0 x1 8).d.c1)) = gg0; cases gg0 <;> rfl) (by intro hb; have hb275 := hid (show ((((tnSub x0 x1).hi) != ((exAll x0 x1 8).d.c1))) = false from nnb hb); intro x hx; (try simp only [hb]); (try simp only [cond_true]); go_simp; (first | done | exact andNotUT ((exAll x0 x1 8).f.c1) ((exAll x0 x1 8).d.c1) | exact congrArg _ (andNotUT ((exAll x0 x1 8).f.c1) ((exAll x0 x1 8).d.c1)) | (rw [andNotUT ((exAll x0 x1 8).f.c1) ((exAll x0 x1 8).d.c1)]; done) | (rw [andNotUT ((exAll x0 x1 8).f.c1) ((exAll x0 x1 8).d.c1)]; rfl))) ?_
     simp only [sA, sB]
     refine take_if (i := 20) (v := .bool ((((tnSub x0 x1).lo) != (((exAll x0 x1 8).f.c1) &&& ~~~((exAll x0 x1 8).d.c1))))) (!(((tnSub x0 x1).hi) != ((exAll x0 x1 8).d.c1))) (st_ups _ _) rfl rfl (by kernel_rfl) (fun _ _ _ _ h => h) (by generalize (((tnSub x0 x1).hi) != ((exAll x0 x1 8).d.c1)) = gg0; cases gg0 <;> rfl) (by intro hb; have hb276 := hid (show ((((tnSub x0 x1).hi) != ((exAll x0 x1 8).d.c1))) = false from nnb hb); intro x hx; (try simp only [hb]); (try simp only [cond_true]); go_simp; (first | done | exact neUT ((tnSub x0 x1).lo) (((exAll x0 x1 8).f.c1) &&& ~~~((exAll x0 x1 8).d.c1)) | exact congrArg _ (neUT ((tnSub x0 x1).lo) (((exAll x0 x1 8).f.c1) &&& ~~~((exAll x0 x1 8).d.c1))) | (rw [neUT ((tnSub x0 x1).lo) (((exAll x0 x1 8).f.c1) &&& ~~~((exAll x0 x1 8).d.c1))]; done) | (rw [neUT ((tnSub x0 x1).lo) (((exAll x0 x1 8).f.c1) &&& ~~~((exAll x0 x1 8).d.c1))]; rfl))) ?_
     simp only [sA, sB]
     refine tv 21 (.bool ((bif (((tnSub x0 x1).hi) != ((exAll x0 x1 8).d.c1)) then true else (((tnSub x0 x1).lo) != (((exAll x0 x1 8).f.c1) &&& ~~~((exAll x0 x1 8).d.c1)))))) rfl rfl (by intro x hx; (cases hq : ((((tnSub x0 x1).hi) != ((exAll x0 x1 8).d.c1))) <;> first | rfl | (simp only [hq]; rfl) | simp [hq])) ?_
     simp only [sA, sB]
     clear HS
     refine td fun W12 HS => ?_
     cases h2 : ((bif (((tnSub x0 x1).hi) != ((exAll x0 x1 8).d.c1)) then true else (((tnSub x0 x1).lo) != (((exAll x0 x1 8).f.c1) &&& ~~~((exAll x0 x1 8).d.c1)))))
     ·replace h2 := hid h2
      go_upto_region 22 with fail
      refine lnb HS.out rfl ?_
      refine lm 0 13 rfl rfl rfl rfl ?_
      simp only [sA, sB]
      refine lv 1 (.int .i64 2) rfl rfl (by intro x hx; go_simp; (first | done | exact rfl)) ?_
      simp only [sA, sB]
      refine la 2 93 rfl rfl rfl rfl ?_
      simp only [sA, sB]
      clear HS
      refine ld fun W13 HS => ?_
      go_wp2
      rw [rounds_succ]
      go_upto_region 21 with fail
      refine lnb HS.out rfl ?_
      refine lm 0 13 rfl rfl rfl rfl ?_
      simp only [sA, sB]
      refine lv 1 (.bool true) rfl rfl (by intro x hx; go_simp; (first | done | exact rfl)) ?_
      simp only [sA, sB]
      clear HS
      refine ld fun W14 HS => ?_
      go_upto_region 23 with fail
      refine upb 22 (HS.out.drew) rfl ?_
      refine tm 0 13 rfl rfl rfl rfl ?_
      simp only [sA, sB]
      refine tv 1 (.pointer (some ⟨k3, 4, none⟩)) rfl rfl (by intro x hx; go_simp; (first | done | exact rfl)) ?_
      simp only [sA, sB]
      refine tv 2 (.pointer (some ⟨k3, 5, none⟩)) rfl rfl (by intro x hx; go_simp; (first | done | exact rfl)) ?_
      simp only [sA, sB]
      refine tv 3 (.int .u64 (tn ((tnAnd x0 x1).hi))) rfl rfl (by intro x hx; have f0 := hx.load 4 5 rfl rfl; go_simp; (first | done | exact rfl)) ?_
      simp only [sA, sB]
      refine tm 4 13 rfl rfl rfl rfl ?_
      simp only [sA, sB]
      refine tv 5 (.pointer (some ⟨k2, 2, none⟩)) rfl rfl (by intro x hx; go_simp; (first | done | exact rfl)) ?_
      simp only [sA, sB]
      refine tv 6 (.int .u64 (tn ((exAll x0 x1 8).d.c2))) rfl rfl (by intro x hx; have f0 := hx.load 3 2 rfl rfl; go_simp; (first | done | exact rfl)) ?_
      simp only [sA, sB]
      refine tv 7 (.bool ((((tnAnd x0 x1).hi) != ((exAll x0 x1 8).d.c2)))) rfl rfl (by intro x hx; go_simp; (first | done | exact neUT ((tnAnd x0 x1).hi) ((exAll x0 x1 8).d.c2) | exact congrArg _ (neUT ((tnAnd x0 x1).hi) ((exAll x0 x1 8).d.c2)) | (rw [neUT ((tnAnd x0 x1).hi) ((exAll x0 x1 8).d.c2)]; done) | (rw [neUT ((tnAnd x0 x1).hi) ((exAll x0 x1 8).d.c2)]; rfl))) ?_
      simp only [sA, sB]
      refine tm 8 101 rfl rfl rfl rfl ?_
      simp only [sA, sB]
      refine take_if (i := 9) (v := .int .i64 2) (!(((tnAnd x0 x1).hi) != ((exAll x0 x1 8).d.c2))) (st_ups _ _) rfl rfl (by kernel_rfl) (fun _ _ _ _ h => h) (by generalize (((tnAnd x0 x1).hi) != ((exAll x0 x1 8).d.c2)) = gg0; cases gg0 <;> rfl) (by intro hb; have hb277 := hid (show ((((tnAnd x0 x1).hi) != ((exAll x0 x1 8).d.c2))) = false from nnb hb); intro x hx; (try simp only [hb]); (try simp only [cond_true]); go_simp; (first | done | exact rfl)) ?_
      simp only [sA, sB]
      refine take_if (i := 10) (v := .pointer (some ⟨k3, 4, none⟩)) (!(((tnAnd x0 x1).hi) != ((exAll x0 x1 8).d.c2))) (st_ups _ _) rfl rfl (by kernel_rfl) (fun _ _ _ _ h => h) (by generalize (((tnAnd x0 x1).hi) != ((exAll x0 x1 8).d.c2)) = gg0; cases gg0 <;> rfl) (by intro hb; have hb278 := hid (show ((((tnAnd x0 x1).hi) != ((exAll x0 x1 8).d.c2))) = false from nnb hb); intro x hx; (try simp only [hb]); (try simp only [cond_true]); go_simp; (first | done | exact rfl)) ?_
      simp only [sA, sB]
      refine take_if (i := 11) (v := .pointer (some ⟨k3, 4, none⟩)) (!(((tnAnd x0 x1).hi) != ((exAll x0 x1 8).d.c2))) (st_ups _ _) rfl rfl (by kernel_rfl) (fun _ _ _ _ h => h) (by generalize (((tnAnd x0 x1).hi) != ((exAll x0 x1 8).d.c2)) = gg0; cases gg0 <;> rfl) (by intro hb; have hb279 := hid (show ((((tnAnd x0 x1).hi) != ((exAll x0 x1 8).d.c2))) = false from nnb hb); intro x hx; (try simp only [hb]); (try simp only [cond_true]); go_simp; (first | done | exact rfl)) ?_
      simp only [sA, sB]
      refine take_if (i := 12) (v := .int .u64 (tn ((tnAnd x0 x1).lo))) (!(((tnAnd x0 x1).hi) != ((exAll x0 x1 8).d.c2))) (st_ups _ _) rfl rfl (by kernel_rfl) (fun _ _ _ _ h => h) (by generalize (((tnAnd x0 x1).hi) != ((exAll x0 x1 8).d.c2)) = gg0; cases gg0 <;> rfl) (by intro hb; have hb280 := hid (show ((((tnAnd x0 x1).hi) != ((exAll x0 x1 8).d.c2))) = false from nnb hb); intro x hx; (try simp only [hb]); (try simp only [cond_true]); have f0 := hx.load 4 4 rfl rfl; go_simp; (first | done | exact rfl)) ?_
      simp only [sA, sB]
      refine take_if (i := 13) (v := .int .i64 2) (!(((tnAnd x0 x1).hi) != ((exAll x0 x1 8).d.c2))) (st_ups _ _) rfl rfl (by kernel_rfl) (fun _ _ _ _ h => h) (by generalize (((tnAnd x0 x1).hi) != ((exAll x0 x1 8).d.c2)) = gg0; cases gg0 <;> rfl) (by intro hb; have hb281 := hid (show ((((tnAnd x0 x1).hi) != ((exAll x0 x1 8).d.c2))) = false from nnb hb); intro x hx; (try simp only [hb]); (try simp only [cond_true]); go_simp; (first | done | exact rfl)) ?_
      simp only [sA, sB]
      refine take_if (i := 14) (v := .pointer (some ⟨k1, 2, none⟩)) (!(((tnAnd x0 x1).hi) != ((exAll x0 x1 8).d.c2))) (st_ups _ _) rfl rfl (by kernel_rfl) (fun _ _ _ _ h => h) (by generalize (((tnAnd x0 x1).hi) != ((exAll x0 x1 8).d.c2)) = gg0; cases gg0 <;> rfl) (by intro hb; have hb282 := hid (show ((((tnAnd x0 x1).hi) != ((exAll x0 x1 8).d.c2))) = false from nnb hb); intro x hx; (try simp only [hb]); (try simp only [cond_true]); go_simp; (first | done | exact rfl)) ?_
      simp only [sA, sB]
      refine take_if (i := 15) (v := .int .u64 (tn ((exAll x0 x1 8).f.c2))) (!(((tnAnd x0 x1).hi) != ((exAll x0 x1 8).d.c2))) (st_ups _ _) rfl rfl (by kernel_rfl) (fun _ _ _ _ h => h) (by generalize (((tnAnd x0 x1).hi) != ((exAll x0 x1 8).d.c2)) = gg0; cases gg0 <;> rfl) (by intro hb; have hb283 := hid (show ((((tnAnd x0 x1).hi) != ((exAll x0 x1 8).d.c2))) = false from nnb hb); intro x hx; (try simp only [hb]); (try simp only [cond_true]); have f0 := hx.load 2 2 rfl rfl; go_simp; (first | done | exact rfl)) ?_
      simp only [sA, sB]
      refine take_if (i := 16) (v := .int .i64 2) (!(((tnAnd x0 x1).hi) != ((exAll x0 x1 8).d.c2))) (st_ups _ _) rfl rfl (by kernel_rfl) (fun _ _ _ _ h => h) (by generalize (((tnAnd x0 x1).hi) != ((exAll x0 x1 8).d.c2)) = gg0; cases gg0 <;> rfl) (by intro hb; have hb284 := hid (show ((((tnAnd x0 x1).hi) != ((exAll x0 x1 8).d.c2))) = false from nnb hb); intro x hx; (try simp only [hb]); (try simp only [cond_true]); go_simp; (first | done | exact rfl)) ?_
      simp only [sA, sB]
      refine take_if (i := 17) (v := .pointer (some ⟨k2, 2, none⟩)) (!(((tnAnd x0 x1).hi) != ((exAll x0 x1 8).d.c2))) (st_ups _ _) rfl rfl (by kernel_rfl) (fun _ _ _ _ h => h) (by generalize (((tnAnd x0 x1).hi) != ((exAll x0 x1 8).d.c2)) = gg0; cases gg0 <;> rfl) (by intro hb; have hb285 := hid (show ((((tnAnd x0 x1).hi) != ((exAll x0 x1 8).d.c2))) = false from nnb hb); intro x hx; (try simp only [hb]); (try simp only [cond_true]); go_simp; (first | done | exact rfl)) ?_
      simp only [sA, sB]
      refine take_if (i := 18) (v := .int .u64 (tn ((exAll x0 x1 8).d.c2))) (!(((tnAnd x0 x1).hi) != ((exAll x0 x1 8).d.c2))) (st_ups _ _) rfl rfl (by kernel_rfl) (fun _ _ _ _ h => h) (by generalize (((tnAnd x0 x1).hi) != ((exAll x0 x1 8).d.c2)) = gg0; cases gg0 <;> rfl) (by intro hb; have hb286 := hid (show ((((tnAnd x0 x1).hi) != ((exAll x0 x1 8).d.c2))) = false from nnb hb); intro x hx; (try simp only [hb]); (try simp only [cond_true]); have f0 := hx.load 3 2 rfl rfl; go_simp; (first | done | exact rfl)) ?_
      simp only [sA, sB]
      refine take_if (i := 19) (v := .int .u64 (tn (((exAll x0 x1 8).f.c2) &&& ~~~((exAll x0 x1 8).d.c2)))) (!(((tnAnd x0 x1).hi) != ((exAll x0 x1 8).d.c2))) (st_ups _ _) rfl rfl (by kernel_rfl) (fun _ _ _ _ h => h) (by generalize (((tnAnd x0 x1).hi) != ((exAll x0 x1 8).d.c2)) = gg0; cases gg0 <;> rfl) (by intro hb; have hb287 := hid (show ((((tnAnd x0 x1).hi) != ((exAll x0 x1 8).d.c2))) = false from nnb hb); intro x hx; (try simp only [hb]); (try simp only [cond_true]); go_simp; (first | done | exact andNotUT ((exAll x0 x1 8).f.c2) ((exAll x0 x1 8).d.c2) | exact congrArg _ (andNotUT ((exAll x0 x1 8).f.c2) ((exAll x0 x1 8).d.c2)) | (rw [andNotUT ((exAll x0 x1 8).f.c2) ((exAll x0 x1 8).d.c2)]; done) | (rw [andNotUT ((exAll x0 x1 8).f.c2) ((exAll x0 x1 8).d.c2)]; rfl))) ?_
      simp only [sA, sB]
      refine take_if (i := 20) (v := .bool ((((tnAnd x0 x1).lo) != (((exAll x0 x1 8).f.c2) &&& ~~~((exAll x0 x1 8).d.c2))))) (!(((tnAnd x0 x1).hi) != ((exAll x0 x1 8).d.c2))) (st_ups _ _) rfl rfl (by kernel_rfl) (fun _ _ _ _ h => h) (by generalize (((tnAnd x0 x1).hi) != ((exAll x0 x1 8).d.c2)) = gg0; cases gg0 <;> rfl) (by intro hb; have hb288 := hid (show ((((tnAnd x0 x1).hi) != ((exAll x0 x1 8).d.c2))) = false from nnb hb); intro x hx; (try simp only [hb]); (try simp only [cond_true]); go_simp; (first | done | exact neUT ((tnAnd x0 x1).lo) (((exAll x0 x1 8).f.c2) &&& ~~~((exAll x0 x1 8).d.c2)) | exact congrArg _ (neUT ((tnAnd x0 x1).lo) (((exAll x0 x1 8).f.c2) &&& ~~~((exAll x0 x1 8).d.c2))) | (rw [neUT ((tnAnd x0 x1).lo) (((exAll x0 x1 8).f.c2) &&& ~~~((exAll x0 x1 8).d.c2))]; done) | (rw [neUT ((tnAnd x0 x1).lo) (((exAll x0 x1 8).f.c2) &&& ~~~((exAll x0 x1 8).d.c2))]; rfl))) ?_
      simp only [sA, sB]
      refine tv 21 (.bool ((bif (((tnAnd x0 x1).hi) != ((exAll x0 x1 8).d.c2)) then true else (((tnAnd x0 x1).lo) != (((exAll x0 x1 8).f.c2) &&& ~~~((exAll x0 x1 8).d.c2)))))) rfl rfl (by intro x hx; (cases hq : ((((tnAnd x0 x1).hi) != ((exAll x0 x1 8).d.c2))) <;> first | rfl | (simp only [hq]; rfl) | simp [hq])) ?_
      simp only [sA, sB]
      clear HS
      refine td fun W15 HS => ?_
      cases h3 : ((bif (((tnAnd x0 x1).hi) != ((exAll x0 x1 8).d.c2)) then true else (((tnAnd x0 x1).lo) != (((exAll x0 x1 8).f.c2) &&& ~~~((exAll x0 x1 8).d.c2)))))
      ·replace h3 := hid h3
       go_upto_region 22 with fail
       refine lnb HS.out rfl ?_
       refine lm 0 13 rfl rfl rfl rfl ?_
       simp only [sA, sB]
       refine lv 1 (.int .i64 3) rfl rfl (by intro x hx; go_simp; (first | done | exact rfl)) ?_
       simp only [sA, sB]
       refine la 2 93 rfl rfl rfl rfl ?_
       simp only [sA, sB]
       clear HS
       refine ld fun W16 HS => ?_
       go_wp2
       rw [rounds_succ]
       go_upto_region 21 with fail
       refine lnb HS.out rfl ?_
       refine lm 0 13 rfl rfl rfl rfl ?_
       simp only [sA, sB]
       refine lv 1 (.bool true) rfl rfl (by intro x hx; go_simp; (first | done | exact rfl)) ?_
       simp only [sA, sB]
       clear HS
       refine ld fun W17 HS => ?_
       go_upto_region 23 with fail
       refine upb 22 (HS.out.drew) rfl ?_
       refine tm 0 13 rfl rfl rfl rfl ?_
       simp only [sA, sB]
       refine tv 1 (.pointer (some ⟨k3, 6, none⟩)) rfl rfl (by intro x hx; go_simp; (first | done | exact rfl)) ?_
       simp only [sA, sB]
       refine tv 2 (.pointer (some ⟨k3, 7, none⟩)) rfl rfl (by intro x hx; go_simp; (first | done | exact rfl)) ?_
       simp only [sA, sB]
       refine tv 3 (.int .u64 (tn ((tnOr x0 x1).hi))) rfl rfl (by intro x hx; have f0 := hx.load 4 7 rfl rfl; go_simp; (first | done | exact rfl)) ?_
       simp only [sA, sB]
       refine tm 4 13 rfl rfl rfl rfl ?_
       simp only [sA, sB]
       refine tv 5 (.pointer (some ⟨k2, 3, none⟩)) rfl rfl (by intro x hx; go_simp; (first | done | exact rfl)) ?_
       simp only [sA, sB]
       refine tv 6 (.int .u64 (tn ((exAll x0 x1 8).d.c3))) rfl rfl (by intro x hx; have f0 := hx.load 3 3 rfl rfl; go_simp; (first | done | exact rfl)) ?_
       simp only [sA, sB]
       refine tv 7 (.bool ((((tnOr x0 x1).hi) != ((exAll x0 x1 8).d.c3)))) rfl rfl (by intro x hx; go_simp; (first | done | exact neUT ((tnOr x0 x1).hi) ((exAll x0 x1 8).d.c3) | exact congrArg _ (neUT ((tnOr x0 x1).hi) ((exAll x0 x1 8).d.c3)) | (rw [neUT ((tnOr x0 x1).hi) ((exAll x0 x1 8).d.c3)]; done) | (rw [neUT ((tnOr x0 x1).hi) ((exAll x0 x1 8).d.c3)]; rfl))) ?_
       simp only [sA, sB]
       refine tm 8 101 rfl rfl rfl rfl ?_
       simp only [sA, sB]
       refine take_if (i := 9) (v := .int .i64 3) (!(((tnOr x0 x1).hi) != ((exAll x0 x1 8).d.c3))) (st_ups _ _) rfl rfl (by kernel_rfl) (fun _ _ _ _ h => h) (by generalize (((tnOr x0 x1).hi) != ((exAll x0 x1 8).d.c3)) = gg0; cases gg0 <;> rfl) (by intro hb; have hb289 := hid (show ((((tnOr x0 x1).hi) != ((exAll x0 x1 8).d.c3))) = false from nnb hb); intro x hx; (try simp only [hb]); (try simp only [cond_true]); go_simp; (first | done | exact rfl)) ?_
       simp only [sA, sB]
       refine take_if (i := 10) (v := .pointer (some ⟨k3, 6, none⟩)) (!(((tnOr x0 x1).hi) != ((exAll x0 x1 8).d.c3))) (st_ups _ _) rfl rfl (by kernel_rfl) (fun _ _ _ _ h => h) (by generalize (((tnOr x0 x1).hi) != ((exAll x0 x1 8).d.c3)) = gg0; cases gg0 <;> rfl) (by intro hb; have hb290 := hid (show ((((tnOr x0 x1).hi) != ((exAll x0 x1 8).d.c3))) = false from nnb hb); intro x hx; (try simp only [hb]); (try simp only [cond_true]); go_simp; (first | done | exact rfl)) ?_
       simp only [sA, sB]
       refine take_if (i := 11) (v := .pointer (some ⟨k3, 6, none⟩)) (!(((tnOr x0 x1).hi) != ((exAll x0 x1 8).d.c3))) (st_ups _ _) rfl rfl (by kernel_rfl) (fun _ _ _ _ h => h) (by generalize (((tnOr x0 x1).hi) != ((exAll x0 x1 8).d.c3)) = gg0; cases gg0 <;> rfl) (by intro hb; have hb291 := hid (show ((((tnOr x0 x1).hi) != ((exAll x0 x1 8).d.c3))) = false from nnb hb); intro x hx; (try simp only [hb]); (try simp only [cond_true]); go_simp; (first | done | exact rfl)) ?_
       simp only [sA, sB]
       refine take_if (i := 12) (v := .int .u64 (tn ((tnOr x0 x1).lo))) (!(((tnOr x0 x1).hi) != ((exAll x0 x1 8).d.c3))) (st_ups _ _) rfl rfl (by kernel_rfl) (fun _ _ _ _ h => h) (by generalize (((tnOr x0 x1).hi) != ((exAll x0 x1 8).d.c3)) = gg0; cases gg0 <;> rfl) (by intro hb; have hb292 := hid (show ((((tnOr x0 x1).hi) != ((exAll x0 x1 8).d.c3))) = false from nnb hb); intro x hx; (try simp only [hb]); (try simp only [cond_true]); have f0 := hx.load 4 6 rfl rfl; go_simp; (first | done | exact rfl)) ?_
       simp only [sA, sB]
       refine take_if (i := 13) (v := .int .i64 3) (!(((tnOr x0 x1).hi) != ((exAll x0 x1 8).d.c3))) (st_ups _ _) rfl rfl (by kernel_rfl) (fun _ _ _ _ h => h) (by generalize (((tnOr x0 x1).hi) != ((exAll x0 x1 8).d.c3)) = gg0; cases gg0 <;> rfl) (by intro hb; have hb293 := hid (show ((((tnOr x0 x1).hi) != ((exAll x0 x1 8).d.c3))) = false from nnb hb); intro x hx; (try simp only [hb]); (try simp only [cond_true]); go_simp; (first | done | exact rfl)) ?_
       simp only [sA, sB]
       refine take_if (i := 14) (v := .pointer (some ⟨k1, 3, none⟩)) (!(((tnOr x0 x1).hi) != ((exAll x0 x1 8).d.c3))) (st_ups _ _) rfl rfl (by kernel_rfl) (fun _ _ _ _ h => h) (by generalize (((tnOr x0 x1).hi) != ((exAll x0 x1 8).d.c3)) = gg0; cases gg0 <;> rfl) (by intro hb; have hb294 := hid (show ((((tnOr x0 x1).hi) != ((exAll x0 x1 8).d.c3))) = false from nnb hb); intro x hx; (try simp only [hb]); (try simp only [cond_true]); go_simp; (first | done | exact rfl)) ?_
       simp only [sA, sB]
       refine take_if (i := 15) (v := .int .u64 (tn ((exAll x0 x1 8).f.c3))) (!(((tnOr x0 x1).hi) != ((exAll x0 x1 8).d.c3))) (st_ups _ _) rfl rfl (by kernel_rfl) (fun _ _ _ _ h => h) (by generalize (((tnOr x0 x1).hi) != ((exAll x0 x1 8).d.c3)) = gg0; cases gg0 <;> rfl) (by intro hb; have hb295 := hid (show ((((tnOr x0 x1).hi) != ((exAll x0 x1 8).d.c3))) = false from nnb hb); intro x hx; (try simp only [hb]); (try simp only [cond_true]); have f0 := hx.load 2 3 rfl rfl; go_simp; (first | done | exact rfl)) ?_
       simp only [sA, sB]
       refine take_if (i := 16) (v := .int .i64 3) (!(((tnOr x0 x1).hi) != ((exAll x0 x1 8).d.c3))) (st_ups _ _) rfl rfl (by kernel_rfl) (fun _ _ _ _ h => h) (by generalize (((tnOr x0 x1).hi) != ((exAll x0 x1 8).d.c3)) = gg0; cases gg0 <;> rfl) (by intro hb; have hb296 := hid (show ((((tnOr x0 x1).hi) != ((exAll x0 x1 8).d.c3))) = false from nnb hb); intro x hx; (try simp only [hb]); (try simp only [cond_true]); go_simp; (first | done | exact rfl)) ?_
       simp only [sA, sB]
       refine take_if (i := 17) (v := .pointer (some ⟨k2, 3, none⟩)) (!(((tnOr x0 x1).hi) != ((exAll x0 x1 8).d.c3))) (st_ups _ _) rfl rfl (by kernel_rfl) (fun _ _ _ _ h => h) (by generalize (((tnOr x0 x1).hi) != ((exAll x0 x1 8).d.c3)) = gg0; cases gg0 <;> rfl) (by intro hb; have hb297 := hid (show ((((tnOr x0 x1).hi) != ((exAll x0 x1 8).d.c3))) = false from nnb hb); intro x hx; (try simp only [hb]); (try simp only [cond_true]); go_simp; (first | done | exact rfl)) ?_
       simp only [sA, sB]
       refine take_if (i := 18) (v := .int .u64 (tn ((exAll x0 x1 8).d.c3))) (!(((tnOr x0 x1).hi) != ((exAll x0 x1 8).d.c3))) (st_ups _ _) rfl rfl (by kernel_rfl) (fun _ _ _ _ h => h) (by generalize (((tnOr x0 x1).hi) != ((exAll x0 x1 8).d.c3)) = gg0; cases gg0 <;> rfl) (by intro hb; have hb298 := hid (show ((((tnOr x0 x1).hi) != ((exAll x0 x1 8).d.c3))) = false from nnb hb); intro x hx; (try simp only [hb]); (try simp only [cond_true]); have f0 := hx.load 3 3 rfl rfl; go_simp; (first | done | exact rfl)) ?_
       simp only [sA, sB]
       refine take_if (i := 19) (v := .int .u64 (tn (((exAll x0 x1 8).f.c3) &&& ~~~((exAll x0 x1 8).d.c3)))) (!(((tnOr x0 x1).hi) != ((exAll x0 x1 8).d.c3))) (st_ups _ _) rfl rfl (by kernel_rfl) (fun _ _ _ _ h => h) (by generalize (((tnOr x0 x1).hi) != ((exAll x0 x1 8).d.c3)) = gg0; cases gg0 <;> rfl) (by intro hb; have hb299 := hid (show ((((tnOr x0 x1).hi) != ((exAll x0 x1 8).d.c3))) = false from nnb hb); intro x hx; (try simp only [hb]); (try simp only [cond_true]); go_simp; (first | done | exact andNotUT ((exAll x0 x1 8).f.c3) ((exAll x0 x1 8).d.c3) | exact congrArg _ (andNotUT ((exAll x0 x1 8).f.c3) ((exAll x0 x1 8).d.c3)) | (rw [andNotUT ((exAll x0 x1 8).f.c3) ((exAll x0 x1 8).d.c3)]; done) | (rw [andNotUT ((exAll x0 x1 8).f.c3) ((exAll x0 x1 8).d.c3)]; rfl))) ?_
       simp only [sA, sB]
       refine take_if (i := 20) (v := .bool ((((tnOr x0 x1).lo) != (((exAll x0 x1 8).f.c3) &&& ~~~((exAll x0 x1 8).d.c3))))) (!(((tnOr x0 x1).hi) != ((exAll x0 x1 8).d.c3))) (st_ups _ _) rfl rfl (by kernel_rfl) (fun _ _ _ _ h => h) (by generalize (((tnOr x0 x1).hi) != ((exAll x0 x1 8).d.c3)) = gg0; cases gg0 <;> rfl) (by intro hb; have hb300 := hid (show ((((tnOr x0 x1).hi) != ((exAll x0 x1 8).d.c3))) = false from nnb hb); intro x hx; (try simp only [hb]); (try simp only [cond_true]); go_simp; (first | done | exact neUT ((tnOr x0 x1).lo) (((exAll x0 x1 8).f.c3) &&& ~~~((exAll x0 x1 8).d.c3)) | exact congrArg _ (neUT ((tnOr x0 x1).lo) (((exAll x0 x1 8).f.c3) &&& ~~~((exAll x0 x1 8).d.c3))) | (rw [neUT ((tnOr x0 x1).lo) (((exAll x0 x1 8).f.c3) &&& ~~~((exAll x0 x1 8).d.c3))]; done) | (rw [neUT ((tnOr x0 x1).lo) (((exAll x0 x1 8).f.c3) &&& ~~~((exAll x0 x1 8).d.c3))]; rfl))) ?_
       simp only [sA, sB]
       refine tv 21 (.bool ((bif (((tnOr x0 x1).hi) != ((exAll x0 x1 8).d.c3)) then true else (((tnOr x0 x1).lo) != (((exAll x0 x1 8).f.c3) &&& ~~~((exAll x0 x1 8).d.c3)))))) rfl rfl (by intro x hx; (cases hq : ((((tnOr x0 x1).hi) != ((exAll x0 x1 8).d.c3))) <;> first | rfl | (simp only [hq]; rfl) | simp [hq])) ?_
       simp only [sA, sB]
       clear HS
       refine td fun W18 HS => ?_
       cases h4 : ((bif (((tnOr x0 x1).hi) != ((exAll x0 x1 8).d.c3)) then true else (((tnOr x0 x1).lo) != (((exAll x0 x1 8).f.c3) &&& ~~~((exAll x0 x1 8).d.c3)))))
       ·replace h4 := hid h4
        go_upto_region 22 with fail
        refine lnb HS.out rfl ?_
        refine lm 0 13 rfl rfl rfl rfl ?_
        simp only [sA, sB]
        refine lv 1 (.int .i64 4) rfl rfl (by intro x hx; go_simp; (first | done | exact rfl)) ?_
        simp only [sA, sB]
        refine la 2 93 rfl rfl rfl rfl ?_
        simp only [sA, sB]
        clear HS
        refine ld fun W19 HS => ?_
        go_wp2
        rw [rounds_succ]
        go_upto_region 21 with fail
        refine lnb HS.out rfl ?_
        refine lm 0 13 rfl rfl rfl rfl ?_
        simp only [sA, sB]
        refine lv 1 (.bool true) rfl rfl (by intro x hx; go_simp; (first | done | exact rfl)) ?_
        simp only [sA, sB]
        clear HS
        refine ld fun W20 HS => ?_
        go_upto_region 23 with fail
        refine upb 22 (HS.out.drew) rfl ?_
        refine tm 0 13 rfl rfl rfl rfl ?_
        simp only [sA, sB]
        refine tv 1 (.pointer (some ⟨k3, 8, none⟩)) rfl rfl (by intro x hx; go_simp; (first | done | exact rfl)) ?_
        simp only [sA, sB]
        refine tv 2 (.pointer (some ⟨k3, 9, none⟩)) rfl rfl (by intro x hx; go_simp; (first | done | exact rfl)) ?_
        simp only [sA, sB]
        refine tv 3 (.int .u64 (tn ((tnXor x0 x1).hi))) rfl rfl (by intro x hx; have f0 := hx.load 4 9 rfl rfl; go_simp; (first | done | exact rfl)) ?_
        simp only [sA, sB]
        refine tm 4 13 rfl rfl rfl rfl ?_
        simp only [sA, sB]
        refine tv 5 (.pointer (some ⟨k2, 4, none⟩)) rfl rfl (by intro x hx; go_simp; (first | done | exact rfl)) ?_
        simp only [sA, sB]
        refine tv 6 (.int .u64 (tn ((exAll x0 x1 8).d.c4))) rfl rfl (by intro x hx; have f0 := hx.load 3 4 rfl rfl; go_simp; (first | done | exact rfl)) ?_
        simp only [sA, sB]
        refine tv 7 (.bool ((((tnXor x0 x1).hi) != ((exAll x0 x1 8).d.c4)))) rfl rfl (by intro x hx; go_simp; (first | done | exact neUT ((tnXor x0 x1).hi) ((exAll x0 x1 8).d.c4) | exact congrArg _ (neUT ((tnXor x0 x1).hi) ((exAll x0 x1 8).d.c4)) | (rw [neUT ((tnXor x0 x1).hi) ((exAll x0 x1 8).d.c4)]; done) | (rw [neUT ((tnXor x0 x1).hi) ((exAll x0 x1 8).d.c4)]; rfl))) ?_
        simp only [sA, sB]
        refine tm 8 101 rfl rfl rfl rfl ?_
        simp only [sA, sB]
        refine take_if (i := 9) (v := .int .i64 4) (!(((tnXor x0 x1).hi) != ((exAll x0 x1 8).d.c4))) (st_ups _ _) rfl rfl (by kernel_rfl) (fun _ _ _ _ h => h) (by generalize (((tnXor x0 x1).hi) != ((exAll x0 x1 8).d.c4)) = gg0; cases gg0 <;> rfl) (by intro hb; have hb301 := hid (show ((((tnXor x0 x1).hi) != ((exAll x0 x1 8).d.c4))) = false from nnb hb); intro x hx; (try simp only [hb]); (try simp only [cond_true]); go_simp; (first | done | exact rfl)) ?_
        simp only [sA, sB]
        refine take_if (i := 10) (v := .pointer (some ⟨k3, 8, none⟩)) (!(((tnXor x0 x1).hi) != ((exAll x0 x1 8).d.c4))) (st_ups _ _) rfl rfl (by kernel_rfl) (fun _ _ _ _ h => h) (by generalize (((tnXor x0 x1).hi) != ((exAll x0 x1 8).d.c4)) = gg0; cases gg0 <;> rfl) (by intro hb; have hb302 := hid (show ((((tnXor x0 x1).hi) != ((exAll x0 x1 8).d.c4))) = false from nnb hb); intro x hx; (try simp only [hb]); (try simp only [cond_true]); go_simp; (first | done | exact rfl)) ?_
        simp only [sA, sB]
        refine take_if (i := 11) (v := .pointer (some ⟨k3, 8, none⟩)) (!(((tnXor x0 x1).hi) != ((exAll x0 x1 8).d.c4))) (st_ups _ _) rfl rfl (by kernel_rfl) (fun _ _ _ _ h => h) (by generalize (((tnXor x0 x1).hi) != ((exAll x0 x1 8).d.c4)) = gg0; cases gg0 <;> rfl) (by intro hb; have hb303 := hid (show ((((tnXor x0 x1).hi) != ((exAll x0 x1 8).d.c4))) = false from nnb hb); intro x hx; (try simp only [hb]); (try simp only [cond_true]); go_simp; (first | done | exact rfl)) ?_
        simp only [sA, sB]
        refine take_if (i := 12) (v := .int .u64 (tn ((tnXor x0 x1).lo))) (!(((tnXor x0 x1).hi) != ((exAll x0 x1 8).d.c4))) (st_ups _ _) rfl rfl (by kernel_rfl) (fun _ _ _ _ h => h) (by generalize (((tnXor x0 x1).hi) != ((exAll x0 x1 8).d.c4)) = gg0; cases gg0 <;> rfl) (by intro hb; have hb304 := hid (show ((((tnXor x0 x1).hi) != ((exAll x0 x1 8).d.c4))) = false from nnb hb); intro x hx; (try simp only [hb]); (try simp only [cond_true]); have f0 := hx.load 4 8 rfl rfl; go_simp; (first | done | exact rfl)) ?_
        simp only [sA, sB]
        refine take_if (i := 13) (v := .int .i64 4) (!(((tnXor x0 x1).hi) != ((exAll x0 x1 8).d.c4))) (st_ups _ _) rfl rfl (by kernel_rfl) (fun _ _ _ _ h => h) (by generalize (((tnXor x0 x1).hi) != ((exAll x0 x1 8).d.c4)) = gg0; cases gg0 <;> rfl) (by intro hb; have hb305 := hid (show ((((tnXor x0 x1).hi) != ((exAll x0 x1 8).d.c4))) = false from nnb hb); intro x hx; (try simp only [hb]); (try simp only [cond_true]); go_simp; (first | done | exact rfl)) ?_
        simp only [sA, sB]
        refine take_if (i := 14) (v := .pointer (some ⟨k1, 4, none⟩)) (!(((tnXor x0 x1).hi) != ((exAll x0 x1 8).d.c4))) (st_ups _ _) rfl rfl (by kernel_rfl) (fun _ _ _ _ h => h) (by generalize (((tnXor x0 x1).hi) != ((exAll x0 x1 8).d.c4)) = gg0; cases gg0 <;> rfl) (by intro hb; have hb306 := hid (show ((((tnXor x0 x1).hi) != ((exAll x0 x1 8).d.c4))) = false from nnb hb); intro x hx; (try simp only [hb]); (try simp only [cond_true]); go_simp; (first | done | exact rfl)) ?_
        simp only [sA, sB]
        refine take_if (i := 15) (v := .int .u64 (tn ((exAll x0 x1 8).f.c4))) (!(((tnXor x0 x1).hi) != ((exAll x0 x1 8).d.c4))) (st_ups _ _) rfl rfl (by kernel_rfl) (fun _ _ _ _ h => h) (by generalize (((tnXor x0 x1).hi) != ((exAll x0 x1 8).d.c4)) = gg0; cases gg0 <;> rfl) (by intro hb; have hb307 := hid (show ((((tnXor x0 x1).hi) != ((exAll x0 x1 8).d.c4))) = false from nnb hb); intro x hx; (try simp only [hb]); (try simp only [cond_true]); have f0 := hx.load 2 4 rfl rfl; go_simp; (first | done | exact rfl)) ?_
        simp only [sA, sB]
        refine take_if (i := 16) (v := .int .i64 4) (!(((tnXor x0 x1).hi) != ((exAll x0 x1 8).d.c4))) (st_ups _ _) rfl rfl (by kernel_rfl) (fun _ _ _ _ h => h) (by generalize (((tnXor x0 x1).hi) != ((exAll x0 x1 8).d.c4)) = gg0; cases gg0 <;> rfl) (by intro hb; have hb308 := hid (show ((((tnXor x0 x1).hi) != ((exAll x0 x1 8).d.c4))) = false from nnb hb); intro x hx; (try simp only [hb]); (try simp only [cond_true]); go_simp; (first | done | exact rfl)) ?_
        simp only [sA, sB]
        refine take_if (i := 17) (v := .pointer (some ⟨k2, 4, none⟩)) (!(((tnXor x0 x1).hi) != ((exAll x0 x1 8).d.c4))) (st_ups _ _) rfl rfl (by kernel_rfl) (fun _ _ _ _ h => h) (by generalize (((tnXor x0 x1).hi) != ((exAll x0 x1 8).d.c4)) = gg0; cases gg0 <;> rfl) (by intro hb; have hb309 := hid (show ((((tnXor x0 x1).hi) != ((exAll x0 x1 8).d.c4))) = false from nnb hb); intro x hx; (try simp only [hb]); (try simp only [cond_true]); go_simp; (first | done | exact rfl)) ?_
        simp only [sA, sB]
        refine take_if (i := 18) (v := .int .u64 (tn ((exAll x0 x1 8).d.c4))) (!(((tnXor x0 x1).hi) != ((exAll x0 x1 8).d.c4))) (st_ups _ _) rfl rfl (by kernel_rfl) (fun _ _ _ _ h => h) (by generalize (((tnXor x0 x1).hi) != ((exAll x0 x1 8).d.c4)) = gg0; cases gg0 <;> rfl) (by intro hb; have hb310 := hid (show ((((tnXor x0 x1).hi) != ((exAll x0 x1 8).d.c4))) = false from nnb hb); intro x hx; (try simp only [hb]); (try simp only [cond_true]); have f0 := hx.load 3 4 rfl rfl; go_simp; (first | done | exact rfl)) ?_
        simp only [sA, sB]
        refine take_if (i := 19) (v := .int .u64 (tn (((exAll x0 x1 8).f.c4) &&& ~~~((exAll x0 x1 8).d.c4)))) (!(((tnXor x0 x1).hi) != ((exAll x0 x1 8).d.c4))) (st_ups _ _) rfl rfl (by kernel_rfl) (fun _ _ _ _ h => h) (by generalize (((tnXor x0 x1).hi) != ((exAll x0 x1 8).d.c4)) = gg0; cases gg0 <;> rfl) (by intro hb; have hb311 := hid (show ((((tnXor x0 x1).hi) != ((exAll x0 x1 8).d.c4))) = false from nnb hb); intro x hx; (try simp only [hb]); (try simp only [cond_true]); go_simp; (first | done | exact andNotUT ((exAll x0 x1 8).f.c4) ((exAll x0 x1 8).d.c4) | exact congrArg _ (andNotUT ((exAll x0 x1 8).f.c4) ((exAll x0 x1 8).d.c4)) | (rw [andNotUT ((exAll x0 x1 8).f.c4) ((exAll x0 x1 8).d.c4)]; done) | (rw [andNotUT ((exAll x0 x1 8).f.c4) ((exAll x0 x1 8).d.c4)]; rfl))) ?_
        simp only [sA, sB]
        refine take_if (i := 20) (v := .bool ((((tnXor x0 x1).lo) != (((exAll x0 x1 8).f.c4) &&& ~~~((exAll x0 x1 8).d.c4))))) (!(((tnXor x0 x1).hi) != ((exAll x0 x1 8).d.c4))) (st_ups _ _) rfl rfl (by kernel_rfl) (fun _ _ _ _ h => h) (by generalize (((tnXor x0 x1).hi) != ((exAll x0 x1 8).d.c4)) = gg0; cases gg0 <;> rfl) (by intro hb; have hb312 := hid (show ((((tnXor x0 x1).hi) != ((exAll x0 x1 8).d.c4))) = false from nnb hb); intro x hx; (try simp only [hb]); (try simp only [cond_true]); go_simp; (first | done | exact neUT ((tnXor x0 x1).lo) (((exAll x0 x1 8).f.c4) &&& ~~~((exAll x0 x1 8).d.c4)) | exact congrArg _ (neUT ((tnXor x0 x1).lo) (((exAll x0 x1 8).f.c4) &&& ~~~((exAll x0 x1 8).d.c4))) | (rw [neUT ((tnXor x0 x1).lo) (((exAll x0 x1 8).f.c4) &&& ~~~((exAll x0 x1 8).d.c4))]; done) | (rw [neUT ((tnXor x0 x1).lo) (((exAll x0 x1 8).f.c4) &&& ~~~((exAll x0 x1 8).d.c4))]; rfl))) ?_
        simp only [sA, sB]
        refine tv 21 (.bool ((bif (((tnXor x0 x1).hi) != ((exAll x0 x1 8).d.c4)) then true else (((tnXor x0 x1).lo) != (((exAll x0 x1 8).f.c4) &&& ~~~((exAll x0 x1 8).d.c4)))))) rfl rfl (by intro x hx; (cases hq : ((((tnXor x0 x1).hi) != ((exAll x0 x1 8).d.c4))) <;> first | rfl | (simp only [hq]; rfl) | simp [hq])) ?_
        simp only [sA, sB]
        clear HS
        refine td fun W21 HS => ?_
        cases h5 : ((bif (((tnXor x0 x1).hi) != ((exAll x0 x1 8).d.c4)) then true else (((tnXor x0 x1).lo) != (((exAll x0 x1 8).f.c4) &&& ~~~((exAll x0 x1 8).d.c4)))))
        ·replace h5 := hid h5
         go_upto_region 22 with fail
         refine lnb HS.out rfl ?_
         refine lm 0 13 rfl rfl rfl rfl ?_
         simp only [sA, sB]
         refine lv 1 (.int .i64 5) rfl rfl (by intro x hx; go_simp; (first | done | exact rfl)) ?_
         simp only [sA, sB]
         refine la 2 93 rfl rfl rfl rfl ?_
         simp only [sA, sB]
         clear HS
         refine ld fun W22 HS => ?_
         go_wp2
         rw [rounds_succ]
         go_upto_region 21 with fail
         refine lnb HS.out rfl ?_
         refine lm 0 13 rfl rfl rfl rfl ?_
         simp only [sA, sB]
         refine lv 1 (.bool false) rfl rfl (by intro x hx; go_simp; (first | done | exact rfl)) ?_
         simp only [sA, sB]
         clear HS
         refine ld fun W23 HS => ?_
         go_upto_region 25 with fail
         refine lnb HS.out rfl ?_
         refine lm 0 7 rfl rfl rfl rfl ?_
         simp only [sA, sB]
         refine lv 1 (.bool ((decide (((exAll x0 x1 r1).n) > 0)))) rfl rfl (by intro x hx; go_simp; (first | done | exact decide_eq_decide.2 (by omega) | omega | (trace_state; sorry))) ?_
         simp only [sA, sB]
         refine la 2 117 rfl rfl rfl rfl ?_
         simp only [sA, sB]
         clear HS
         refine ld fun W24 HS => ?_
         go_wp2
         exact bodyPost_ret (v := .bool ((decide (((exAll x0 x1 r1).n) > 0)))) (by simp [results, Tryd.results4, go_sem]) rfl ⟨(congrArg (fun b => Ending.returned (Value.bool b)) (show (decide (((exAll x0 x1 r1).n) > 0)) = exactB x0 x1 from by rw [hN1.out]; exact ((cond_f h1.out).trans ((cond_f h2.out).trans ((cond_f h3.out).trans ((cond_f h4.out).trans (cond_f h5.out))))).symm)), HS.out.below⟩
        ·replace h5 := hid h5
         go_upto_region 24 with fail
         refine lnb HS.out rfl ?_
         refine lv 0 (.bool false) rfl rfl (by intro x hx; go_simp; (first | done | exact rfl)) ?_
         simp only [sA, sB]
         clear HS
         refine ld fun W22 HS => ?_
         go_wp2
         exact bodyPost_ret (v := .bool false) (by simp [results, Tryd.results4, go_sem]) rfl ⟨(congrArg (fun b => Ending.returned (Value.bool b)) (show false = exactB x0 x1 from by exact ((cond_f h1.out).trans ((cond_f h2.out).trans ((cond_f h3.out).trans ((cond_f h4.out).trans (cond_t h5.out))))).symm)), HS.out.below⟩
       ·replace h4 := hid h4
        go_upto_region 24 with fail
        refine lnb HS.out rfl ?_
        refine lv 0 (.bool false) rfl rfl (by intro x hx; go_simp; (first | done | exact rfl)) ?_
        simp only [sA, sB]
        clear HS
        refine ld fun W19 HS => ?_
        go_wp2
        exact bodyPost_ret (v := .bool false) (by simp [results, Tryd.results4, go_sem]) rfl ⟨(congrArg (fun b => Ending.returned (Value.bool b)) (show false = exactB x0 x1 from by exact ((cond_f h1.out).trans ((cond_f h2.out).trans ((cond_f h3.out).trans (cond_t h4.out)))).symm)), HS.out.below⟩
      ·replace h3 := hid h3
       go_upto_region 24 with fail
       refine lnb HS.out rfl ?_
       refine lv 0 (.bool false) rfl rfl (by intro x hx; go_simp; (first | done | exact rfl)) ?_
       simp only [sA, sB]
       clear HS
       refine ld fun W16 HS => ?_
       go_wp2
       exact bodyPost_ret (v := .bool false) (by simp [results, Tryd.results4, go_sem]) rfl ⟨(congrArg (fun b => Ending.returned (Value.bool b)) (show false = exactB x0 x1 from by exact ((cond_f h1.out).trans ((cond_f h2.out).trans (cond_t h3.out))).symm)), HS.out.below⟩
     ·replace h2 := hid h2
      go_upto_region 24 with fail
      refine lnb HS.out rfl ?_
      refine lv 0 (.bool false) rfl rfl (by intro x hx; go_simp; (first | done | exact rfl)) ?_
      simp only [sA, sB]
      clear HS
      refine ld fun W13 HS => ?_
      go_wp2
      exact bodyPost_ret (v := .bool false) (by simp [results, Tryd.results4, go_sem]) rfl ⟨(congrArg (fun b => Ending.returned (Value.bool b)) (show false = exactB x0 x1 from by exact ((cond_f h1.out).trans (cond_t h2.out)).symm)), HS.out.below⟩
    ·replace h1 := hid h1
     go_upto_region 24 with fail
     refine lnb HS.out rfl ?_
     refine lv 0 (.bool false) rfl rfl (by intro x hx; go_simp; (first | done | exact rfl)) ?_
     simp only [sA, sB]
     clear HS
     refine ld fun W10 HS => ?_
     go_wp2
     exact bodyPost_ret (v := .bool false) (by simp [results, Tryd.results4, go_sem]) rfl ⟨(congrArg (fun b => Ending.returned (Value.bool b)) (show false = exactB x0 x1 from by exact (cond_t h1.out).symm)), HS.out.below⟩
end Go.Proofs.YtpbhfpogbndljaaDoor.Rt
