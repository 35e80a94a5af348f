/-
  The walk of the law DeclKnown.
-/
import Derived.Test.YtejcjjimhaokfaaDoorDlK
import Derived.Test.YtejcjjimhaokfaaDoorDlT
import Derived.Test.YtejcjjimhaokfaaDoorDlM
import Derived.Test.YtejcjjimhaokfaaDoorLoop
namespace Go.Proofs.YtejcjjimhaokfaaDoor.Dcl
open Go.RowKit Go.Proofs.YtejcjjimhaokfaaDoor.Num Go.Proofs.YtejcjjimhaokfaaDoor.Up Go.Proofs.YtejcjjimhaokfaaDoor.Tn
def frm (r : Nat) : BitVec 64 := b64 ((r : Int) - 1)
theorem frm_next (r : Nat) : frm r + 1#64 = frm (r + 1) := by
  unfold frm b64
  rw [show (1#64 : BitVec 64) = BitVec.ofInt 64 1 from rfl, ← BitVec.ofInt_add]
  exact congrArg _ (by omega)
theorem frm_ti {r : Nat} (h : r ≤ 1000) : ti (frm r) = (r : Int) - 1 := by
  show (b64 ((r : Int) - 1)).toInt = _
  rw [← toInt64]
  unfold wrap64
  omega
theorem frm_lt {r n : Nat} {m : BitVec 64} (h : r < n) (hn : n ≤ 100) (hm : ti m = (n : Int) - 1) : ltI (frm r) m = true := decide_eq_true (by rw [frm_ti (by omega), hm]; omega)
theorem frm_ge {r n : Nat} {m : BitVec 64} (h : r = n) (hn : n ≤ 100) (hm : ti m = (n : Int) - 1) : ltI (frm r) m = false := decide_eq_false (by rw [frm_ti (by omega), hm]; omega)
theorem _root_.Go.Proofs.YtejcjjimhaokfaaDoor.Up.St.cut {w0 : World} {l : List Blk} {x : World} (h : St w0 l x) (n : Nat) : St w0 (l.take n) x := ⟨h.below, fun b hb => h.own b (List.mem_of_mem_take hb), h.apart.sublist (List.take_sublist n l)⟩
set_option maxRecDepth 100000 in
set_option maxHeartbeats 16000000 in
theorem declKnown     (w : World) (hT : Tn.Tab w) :
    Calls Tryd.prog 7 #[] w fun e w' => e = .returned (.bool true) ∧ Below w.heap.size w w' := by
  have HT := hid hT
  clear hT
  go_enter Tryd.func7, Tryd.ntmps7
  have HS := hid (st_nil w)
  -- region 1
  go_upto_region 1 with fail
  refine lin_begin (St w []) rfl HS.out ?_
  refine lin_val (i := 0) (v := .agg #[.int .i64 1, .int .i64 1, .int .i64 1, .int .i64 0, .int .i64 0]) rfl rfl (by rfl) (by intro x hx; go_simp; (first | done | exact rfl)) ?_
  simp only [List.set_cons_succ, List.set_cons_zero]
  refine lin_new (i := 1) rfl rfl (by rfl) [.int .i64 0, .int .i64 0, .int .i64 0, .int .i64 0, .int .i64 0] 30 (fun k => .pointer (some ⟨k, 0, none⟩)) [some (.int .i64 0), some (.int .i64 0), some (.int .i64 0), some (.int .i64 0), some (.int .i64 0)] (lessC_refl _) (by intro x hx; go_simp; (first | done | exact rfl)) (fun k1 => ?_)
  simp only [List.set_cons_succ, List.set_cons_zero]
  refine lin_store (i := 2) (St w [⟨k1, [some (.int .i64 1), some (.int .i64 1), some (.int .i64 1), some (.int .i64 0), some (.int .i64 0)], 30⟩]) rfl rfl (by rfl) (fun x => (((((x.setCell ⟨k1, 0, none⟩ (.int .i64 1)).setCell ⟨k1, 1, none⟩ (.int .i64 1)).setCell ⟨k1, 2, none⟩ (.int .i64 1)).setCell ⟨k1, 3, none⟩ (.int .i64 0)).setCell ⟨k1, 4, none⟩ (.int .i64 0))) (by intro x hx; obtain ⟨u0, z0⟩ := hx.has 0 0 rfl (by simp); have q0 := hx.soft 0 0 rfl; obtain ⟨u1, z1⟩ := hx.has 0 1 rfl (by simp); have q1 := hx.soft 0 1 rfl; obtain ⟨u2, z2⟩ := hx.has 0 2 rfl (by simp); have q2 := hx.soft 0 2 rfl; obtain ⟨u3, z3⟩ := hx.has 0 3 rfl (by simp); have q3 := hx.soft 0 3 rfl; obtain ⟨u4, z4⟩ := hx.has 0 4 rfl (by simp); have q4 := hx.soft 0 4 rfl; go_simp; (first | done | rfl)) (fun x hx => (((((hx.put 0 0 (.int .i64 1) rfl).put 0 1 (.int .i64 1) rfl).put 0 2 (.int .i64 1) rfl).put 0 3 (.int .i64 0) rfl).put 0 4 (.int .i64 0) rfl)) ?_
  refine lin_done ?_
  intro W1 hx
  replace HS := hid hx
  clear hx
  -- region 2
  go_upto_region 2 with fail
  refine lin_begin (St w [⟨k1, [some (.int .i64 1), some (.int .i64 1), some (.int .i64 1), some (.int .i64 0), some (.int .i64 0)], 30⟩]) rfl HS.out ?_
  refine lin_val (i := 0) (v := .int .i64 (-1)) rfl rfl (by rfl) (by intro x hx; go_simp; (first | done | exact rfl)) ?_
  simp only [List.set_cons_succ, List.set_cons_zero]
  refine lin_done ?_
  intro W2 hx
  replace HS := hid hx
  clear hx
  go_wp2
  refine loop_up 14 (fun k a W => Hid (∃ u1_0 u1_3 u1_4 u1_5 u1_6 u1_7 u1_8 u1_12 u1_13 u1_14 u1_15 u1_16 u1_17 u1_18 u1_19 u1_20 u1_21 u1_22 u1_23 u1_24 u1_25 u1_26 u1_27 u1_28 u1_29 u1_30 u1_31 u1_32 u1_33 u1_34 u1_35 u1_36 u1_37 u1_38 u1_39 u1_40 u1_41 u1_42 u1_43 u1_44 u1_45 u1_46 u1_47 u1_48 u1_49 u1_50 u1_51 u1_52 u1_53 u1_54 u1_55 u1_56 u1_57 u1_58 u1_59 u1_60 u1_61 u1_62 u1_63 u1_64 u1_65 u1_66 u1_67 u1_68 u1_69 u1_70 u1_71 u1_72 u1_73 u1_74 u1_75 u1_76 u1_77 u1_78 u1_79 u1_80 u1_81 u1_82 u1_83 u1_84 u1_85 u1_86 : Value, a = Act.mk [u1_0, .pointer (some ⟨k1, 0, none⟩), .int .i64 (ti (frm k)), u1_3, u1_4, u1_5, u1_6, u1_7, u1_8, undef, undef, .agg #[.int .i64 1, .int .i64 1, .int .i64 1, .int .i64 0, .int .i64 0], u1_12, u1_13, u1_14, u1_15, u1_16, u1_17, u1_18, u1_19, u1_20, u1_21, u1_22, u1_23, u1_24, u1_25, u1_26, u1_27, u1_28, u1_29, u1_30, u1_31, u1_32, u1_33, u1_34, u1_35, u1_36, u1_37, u1_38, u1_39, u1_40, u1_41, u1_42, u1_43, u1_44, u1_45, u1_46, u1_47, u1_48, u1_49, u1_50, u1_51, u1_52, u1_53, u1_54, u1_55, u1_56, u1_57, u1_58, u1_59, u1_60, u1_61, u1_62, u1_63, u1_64, u1_65, u1_66, u1_67, u1_68, u1_69, u1_70, u1_71, u1_72, u1_73, u1_74, u1_75, u1_76, u1_77, u1_78, u1_79, u1_80, u1_81, u1_82, u1_83, u1_84, u1_85, u1_86, undef, undef, undef, undef, undef, undef, undef, undef, undef, undef, undef, undef, undef, undef, undef, undef, undef, undef, undef, undef, undef, undef, undef, undef, undef].toArray [] ∧ St w [⟨k1, [some (.int .i64 1), some (.int .i64 1), some (.int .i64 1), some (.int .i64 0), some (.int .i64 0)], 30⟩] W)) (hid ⟨(.bool false), (undef), (undef), (undef), (undef), (undef), (undef), (undef), (undef), (undef), (undef), (undef), (undef), (undef), (undef), (undef), (undef), (undef), (undef), (undef), (undef), (undef), (undef), (undef), (undef), (undef), (undef), (undef), (undef), (undef), (undef), (undef), (undef), (undef), (undef), (undef), (undef), (undef), (undef), (undef), (undef), (undef), (undef), (undef), (undef), (undef), (undef), (undef), (undef), (undef), (undef), (undef), (undef), (undef), (undef), (undef), (undef), (undef), (undef), (undef), (undef), (undef), (undef), (undef), (undef), (undef), (undef), (undef), (undef), (undef), (undef), (undef), (undef), (undef), (undef), (undef), (undef), (undef), (undef), (undef), (undef), (undef), rfl, HS.out⟩) (fun r1 a W hr hR => ?_)
  obtain ⟨u1_0, u1_3, u1_4, u1_5, u1_6, u1_7, u1_8, u1_12, u1_13, u1_14, u1_15, u1_16, u1_17, u1_18, u1_19, u1_20, u1_21, u1_22, u1_23, u1_24, u1_25, u1_26, u1_27, u1_28, u1_29, u1_30, u1_31, u1_32, u1_33, u1_34, u1_35, u1_36, u1_37, u1_38, u1_39, u1_40, u1_41, u1_42, u1_43, u1_44, u1_45, u1_46, u1_47, u1_48, u1_49, u1_50, u1_51, u1_52, u1_53, u1_54, u1_55, u1_56, u1_57, u1_58, u1_59, u1_60, u1_61, u1_62, u1_63, u1_64, u1_65, u1_66, u1_67, u1_68, u1_69, u1_70, u1_71, u1_72, u1_73, u1_74, u1_75, u1_76, u1_77, u1_78, u1_79, u1_80, u1_81, u1_82, u1_83, u1_84, u1_85, u1_86, rfl, hS⟩ := hR.out
  replace HS := hid hS
  clear hS hR
  by_cases hlt1 : r1 < 14
  · -- round
    -- region 3
    go_upto_region 3 with fail
    refine lin_begin (St w [⟨k1, [some (.int .i64 1), some (.int .i64 1), some (.int .i64 1), some (.int .i64 0), some (.int .i64 0)], 30⟩]) rfl HS.out ?_
    refine lin_val (i := 0) (v := .int .i64 (ti (frm r1))) rfl rfl (by rfl) (by intro x hx; go_simp; (first | done | exact rfl)) ?_
    simp only [List.set_cons_succ, List.set_cons_zero]
    refine lin_val (i := 1) (v := .bool true) rfl rfl (by rfl) (by intro x hx; go_simp; (first | done | (first | exact of_decide_eq_true (frm_lt (m := 13#64) (n := 14) hlt1 (by decide) (by decide)) | exact frm_lt (m := 13#64) (n := 14) hlt1 (by decide) (by decide) | exact eq_of_beq (frm_lt (m := 13#64) (n := 14) hlt1 (by decide) (by decide)) | exact congrArg _ (frm_lt (m := 13#64) (n := 14) hlt1 (by decide) (by decide)) | (rw [frm_lt (m := 13#64) (n := 14) hlt1 (by decide) (by decide)]; done) | ((first | rfl | exact ltIT (frm r1) 13#64 | exact congrArg _ (ltIT (frm r1) 13#64) | (rw [ltIT (frm r1) 13#64]; done) | (rw [ltIT (frm r1) 13#64]; rfl)); rw [frm_lt (m := 13#64) (n := 14) hlt1 (by decide) (by decide)]) | exact congrArg tn (eq_of_beq (frm_lt (m := 13#64) (n := 14) hlt1 (by decide) (by decide))) | exact congrArg ti (eq_of_beq (frm_lt (m := 13#64) (n := 14) hlt1 (by decide) (by decide))) | exact congrArg tn (eq_of_bne (frm_lt (m := 13#64) (n := 14) hlt1 (by decide) (by decide))) | simpa using (frm_lt (m := 13#64) (n := 14) hlt1 (by decide) (by decide))))) ?_
    simp only [List.set_cons_succ, List.set_cons_zero]
    refine lin_done ?_
    intro W3 hx
    replace HS := hid hx
    clear hx
    -- region 5
    go_upto_region 5 with fail
    refine lin_begin (St w [⟨k1, [some (.int .i64 1), some (.int .i64 1), some (.int .i64 1), some (.int .i64 0), some (.int .i64 0)], 30⟩]) rfl HS.out ?_
    refine lin_val (i := 0) (v := .int .i64 (-1)) rfl rfl (by rfl) (by intro x hx; go_simp; (first | done | exact rfl)) ?_
    simp only [List.set_cons_succ, List.set_cons_zero]
    refine lin_done ?_
    intro W4 hx
    replace HS := hid hx
    clear hx
    go_wp2
    refine loop_up 68 (fun k a W => Hid (∃ u2_0 u2_4 u2_5 u2_6 u2_7 u2_8 u2_16 u2_17 u2_18 u2_19 u2_20 u2_21 u2_22 u2_23 u2_24 u2_25 u2_26 u2_27 u2_28 u2_29 u2_30 u2_31 u2_32 u2_33 u2_34 u2_35 u2_36 u2_37 u2_38 u2_39 u2_40 u2_41 u2_42 u2_43 u2_44 u2_45 u2_46 u2_47 u2_48 u2_49 u2_50 u2_51 u2_52 u2_53 u2_54 u2_55 u2_56 u2_57 u2_58 u2_59 u2_60 u2_61 u2_62 u2_63 u2_64 u2_65 u2_66 u2_67 u2_68 u2_69 u2_70 u2_71 u2_72 u2_73 u2_74 u2_75 u2_76 u2_77 u2_78 u2_79 u2_80 u2_81 u2_82 u2_83 u2_84 u2_85 u2_86 : Value, a = Act.mk [u2_0, .pointer (some ⟨k1, 0, none⟩), .int .i64 (ti (frm r1)), .int .i64 (ti (frm k)), u2_4, u2_5, u2_6, u2_7, u2_8, undef, undef, .agg #[.int .i64 1, .int .i64 1, .int .i64 1, .int .i64 0, .int .i64 0], .int .i64 (ti (frm r1)), .bool true, u1_14, u1_15, u2_16, u2_17, u2_18, u2_19, u2_20, u2_21, u2_22, u2_23, u2_24, u2_25, u2_26, u2_27, u2_28, u2_29, u2_30, u2_31, u2_32, u2_33, u2_34, u2_35, u2_36, u2_37, u2_38, u2_39, u2_40, u2_41, u2_42, u2_43, u2_44, u2_45, u2_46, u2_47, u2_48, u2_49, u2_50, u2_51, u2_52, u2_53, u2_54, u2_55, u2_56, u2_57, u2_58, u2_59, u2_60, u2_61, u2_62, u2_63, u2_64, u2_65, u2_66, u2_67, u2_68, u2_69, u2_70, u2_71, u2_72, u2_73, u2_74, u2_75, u2_76, u2_77, u2_78, u2_79, u2_80, u2_81, u2_82, u2_83, u2_84, u2_85, u2_86, undef, undef, undef, undef, undef, undef, undef, undef, undef, undef, undef, undef, undef, undef, undef, undef, undef, undef, undef, undef, undef, undef, undef, undef, undef].toArray [] ∧ St w [⟨k1, [some (.int .i64 1), some (.int .i64 1), some (.int .i64 1), some (.int .i64 0), some (.int .i64 0)], 30⟩] W)) (hid ⟨(u1_0), (u1_4), (u1_5), (u1_6), (u1_7), (u1_8), (u1_16), (u1_17), (u1_18), (u1_19), (u1_20), (u1_21), (u1_22), (u1_23), (u1_24), (u1_25), (u1_26), (u1_27), (u1_28), (u1_29), (u1_30), (u1_31), (u1_32), (u1_33), (u1_34), (u1_35), (u1_36), (u1_37), (u1_38), (u1_39), (u1_40), (u1_41), (u1_42), (u1_43), (u1_44), (u1_45), (u1_46), (u1_47), (u1_48), (u1_49), (u1_50), (u1_51), (u1_52), (u1_53), (u1_54), (u1_55), (u1_56), (u1_57), (u1_58), (u1_59), (u1_60), (u1_61), (u1_62), (u1_63), (u1_64), (u1_65), (u1_66), (u1_67), (u1_68), (u1_69), (u1_70), (u1_71), (u1_72), (u1_73), (u1_74), (u1_75), (u1_76), (u1_77), (u1_78), (u1_79), (u1_80), (u1_81), (u1_82), (u1_83), (u1_84), (u1_85), (u1_86), rfl, HS.out⟩) (fun r2 a W hr hR => ?_)
    obtain ⟨u2_0, u2_4, u2_5, u2_6, u2_7, u2_8, u2_16, u2_17, u2_18, u2_19, u2_20, u2_21, u2_22, u2_23, u2_24, u2_25, u2_26, u2_27, u2_28, u2_29, u2_30, u2_31, u2_32, u2_33, u2_34, u2_35, u2_36, u2_37, u2_38, u2_39, u2_40, u2_41, u2_42, u2_43, u2_44, u2_45, u2_46, u2_47, u2_48, u2_49, u2_50, u2_51, u2_52, u2_53, u2_54, u2_55, u2_56, u2_57, u2_58, u2_59, u2_60, u2_61, u2_62, u2_63, u2_64, u2_65, u2_66, u2_67, u2_68, u2_69, u2_70, u2_71, u2_72, u2_73, u2_74, u2_75, u2_76, u2_77, u2_78, u2_79, u2_80, u2_81, u2_82, u2_83, u2_84, u2_85, u2_86, rfl, hS⟩ := hR.out
    replace HS := hid hS
    clear hS hR
    by_cases hlt2 : r2 < 68
    · -- round
      -- region 6
      go_upto_region 6 with fail
      refine lin_begin (St w [⟨k1, [some (.int .i64 1), some (.int .i64 1), some (.int .i64 1), some (.int .i64 0), some (.int .i64 0)], 30⟩]) rfl HS.out ?_
      refine lin_val (i := 0) (v := .int .i64 (ti (frm r2))) rfl rfl (by rfl) (by intro x hx; go_simp; (first | done | exact rfl)) ?_
      simp only [List.set_cons_succ, List.set_cons_zero]
      refine lin_val (i := 1) (v := .bool true) rfl rfl (by rfl) (by intro x hx; go_simp; (first | done | (first | exact of_decide_eq_true (frm_lt (m := 67#64) (n := 68) hlt2 (by decide) (by decide)) | exact frm_lt (m := 67#64) (n := 68) hlt2 (by decide) (by decide) | exact eq_of_beq (frm_lt (m := 67#64) (n := 68) hlt2 (by decide) (by decide)) | exact congrArg _ (frm_lt (m := 67#64) (n := 68) hlt2 (by decide) (by decide)) | (rw [frm_lt (m := 67#64) (n := 68) hlt2 (by decide) (by decide)]; done) | ((first | rfl | exact ltIT (frm r2) 67#64 | exact congrArg _ (ltIT (frm r2) 67#64) | (rw [ltIT (frm r2) 67#64]; done) | (rw [ltIT (frm r2) 67#64]; rfl)); rw [frm_lt (m := 67#64) (n := 68) hlt2 (by decide) (by decide)]) | exact congrArg tn (eq_of_beq (frm_lt (m := 67#64) (n := 68) hlt2 (by decide) (by decide))) | exact congrArg ti (eq_of_beq (frm_lt (m := 67#64) (n := 68) hlt2 (by decide) (by decide))) | exact congrArg tn (eq_of_bne (frm_lt (m := 67#64) (n := 68) hlt2 (by decide) (by decide))) | simpa using (frm_lt (m := 67#64) (n := 68) hlt2 (by decide) (by decide))))) ?_
      simp only [List.set_cons_succ, List.set_cons_zero]
      refine lin_done ?_
      intro W5 hx
      replace HS := hid hx
      clear hx
      -- region 8
      go_upto_region 8 with fail
      refine lin_begin (St w [⟨k1, [some (.int .i64 1), some (.int .i64 1), some (.int .i64 1), some (.int .i64 0), some (.int .i64 0)], 30⟩]) rfl HS.out ?_
      refine lin_val (i := 0) (v := .int .i64 (ti (frm r1))) rfl rfl (by rfl) (by intro x hx; go_simp; (first | done | exact rfl)) ?_
      simp only [List.set_cons_succ, List.set_cons_zero]
      refine lin_val (i := 1) (v := .agg #[.int .i64 (ti (frm r1)), .int .i64 2, .int .i64 1, .int .i64 0, .int .i64 0]) rfl rfl (by rfl) (by intro x hx; go_simp; (first | done | exact rfl)) ?_
      simp only [List.set_cons_succ, List.set_cons_zero]
      refine lin_new (i := 2) rfl rfl (by rfl) [.int .i64 0, .int .i64 0, .int .i64 0, .int .i64 0, .int .i64 0] 30 (fun k => .pointer (some ⟨k, 0, none⟩)) [some (.int .i64 0), some (.int .i64 0), some (.int .i64 0), some (.int .i64 0), some (.int .i64 0)] (lessC_refl _) (by intro x hx; go_simp; (first | done | exact rfl)) (fun k2 => ?_)
      simp only [List.set_cons_succ, List.set_cons_zero]
      refine lin_store (i := 3) (St w [⟨k1, [some (.int .i64 1), some (.int .i64 1), some (.int .i64 1), some (.int .i64 0), some (.int .i64 0)], 30⟩, ⟨k2, [some (.int .i64 (ti (frm r1))), some (.int .i64 2), some (.int .i64 1), some (.int .i64 0), some (.int .i64 0)], 30⟩]) rfl rfl (by rfl) (fun x => (((((x.setCell ⟨k2, 0, none⟩ (.int .i64 (ti (frm r1)))).setCell ⟨k2, 1, none⟩ (.int .i64 2)).setCell ⟨k2, 2, none⟩ (.int .i64 1)).setCell ⟨k2, 3, none⟩ (.int .i64 0)).setCell ⟨k2, 4, none⟩ (.int .i64 0))) (by intro x hx; obtain ⟨u0, z0⟩ := hx.has 1 0 rfl (by simp); have q0 := hx.soft 1 0 rfl; obtain ⟨u1, z1⟩ := hx.has 1 1 rfl (by simp); have q1 := hx.soft 1 1 rfl; obtain ⟨u2, z2⟩ := hx.has 1 2 rfl (by simp); have q2 := hx.soft 1 2 rfl; obtain ⟨u3, z3⟩ := hx.has 1 3 rfl (by simp); have q3 := hx.soft 1 3 rfl; obtain ⟨u4, z4⟩ := hx.has 1 4 rfl (by simp); have q4 := hx.soft 1 4 rfl; go_simp; (first | done | rfl)) (fun x hx => (((((hx.put 1 0 (.int .i64 (ti (frm r1))) rfl).put 1 1 (.int .i64 2) rfl).put 1 2 (.int .i64 1) rfl).put 1 3 (.int .i64 0) rfl).put 1 4 (.int .i64 0) rfl)) ?_
      refine lin_done ?_
      intro W6 hx
      replace HS := hid hx
      clear hx
      -- region 9
      go_upto_region 9 with fail
      refine lin_begin (St w [⟨k1, [some (.int .i64 1), some (.int .i64 1), some (.int .i64 1), some (.int .i64 0), some (.int .i64 0)], 30⟩, ⟨k2, [some (.int .i64 (ti (frm r1))), some (.int .i64 2), some (.int .i64 1), some (.int .i64 0), some (.int .i64 0)], 30⟩]) rfl HS.out ?_
      refine lin_val (i := 0) (v := .agg #[.int .i64 (ti (frm r1)), .int .i64 2, .int .i64 1, .int .i64 0, .int .i64 0]) rfl rfl (by rfl) (by intro x hx; have f0 := hx.load 1 0 rfl rfl; have f1 := hx.load 1 1 rfl rfl; have f2 := hx.load 1 2 rfl rfl; have f3 := hx.load 1 3 rfl rfl; have f4 := hx.load 1 4 rfl rfl; go_simp; (first | done | exact rfl)) ?_
      simp only [List.set_cons_succ, List.set_cons_zero]
      refine lin_new (i := 1) rfl rfl (by rfl) [.int .i64 (ti (frm r1)), .int .i64 2, .int .i64 1, .int .i64 0, .int .i64 0] 30 (fun k => .slice (some ⟨k, 0, none⟩) 1 1) [some (.int .i64 (ti (frm r1))), some (.int .i64 2), some (.int .i64 1), some (.int .i64 0), some (.int .i64 0)] (lessC_refl _) (by intro x hx; go_simp; (first | done | exact rfl)) (fun k3 => ?_)
      simp only [List.set_cons_succ, List.set_cons_zero]
      refine lin_call (i := 2) (f := 10) (args := #[.slice (some ⟨k3, 0, none⟩) 1 1]) (v := .int .i64 (ti (chkD [Dc.mk (frm r1) 2#64 1#64 0#64 0#64]))) (st_ups _ _) rfl rfl (by rfl) (fun x hx => by kernel_rfl) (by intro x hx; exact check_any [Dc.mk (frm r1) 2#64 1#64 0#64 0#64] _ 1 1 x (arg_st hx 2 rfl [Dc.mk (frm r1) 2#64 1#64 0#64 0#64] (by rfl)) (HT.out.up hx.below)) ?_
      simp only [List.set_cons_succ, List.set_cons_zero]
      refine lin_val (i := 3) (v := .bool (((chkD [Dc.mk (frm r1) 2#64 1#64 0#64 0#64]) != 0#64))) rfl rfl (by rfl) (by intro x hx; go_simp; (first | done | exact neIT (chkD [Dc.mk (frm r1) 2#64 1#64 0#64 0#64]) 0#64 | exact congrArg _ (neIT (chkD [Dc.mk (frm r1) 2#64 1#64 0#64 0#64]) 0#64) | (rw [neIT (chkD [Dc.mk (frm r1) 2#64 1#64 0#64 0#64]) 0#64]; done) | (rw [neIT (chkD [Dc.mk (frm r1) 2#64 1#64 0#64 0#64]) 0#64]; rfl))) ?_
      simp only [List.set_cons_succ, List.set_cons_zero]
      refine lin_done ?_
      intro W7 hx
      replace HS := hid hx
      clear hx
      cases h1 : (((chkD [Dc.mk (frm r1) 2#64 1#64 0#64 0#64]) != 0#64))
      · replace h1 := hid h1
        -- region 11
        go_upto_region 11 with fail
        refine lin_begin (St w [⟨k1, [some (.int .i64 1), some (.int .i64 1), some (.int .i64 1), some (.int .i64 0), some (.int .i64 0)], 30⟩, ⟨k2, [some (.int .i64 (ti (frm r1))), some (.int .i64 2), some (.int .i64 1), some (.int .i64 0), some (.int .i64 0)], 30⟩, ⟨k3, [some (.int .i64 (ti (frm r1))), some (.int .i64 2), some (.int .i64 1), some (.int .i64 0), some (.int .i64 0)], 30⟩]) rfl HS.out ?_
        refine lin_val (i := 0) (v := .agg #[.int .i64 (ti (frm r1)), .int .i64 2, .int .i64 1, .int .i64 0, .int .i64 0]) rfl rfl (by rfl) (by intro x hx; have f0 := hx.load 1 0 rfl rfl; have f1 := hx.load 1 1 rfl rfl; have f2 := hx.load 1 2 rfl rfl; have f3 := hx.load 1 3 rfl rfl; have f4 := hx.load 1 4 rfl rfl; go_simp; (first | done | exact rfl)) ?_
        simp only [List.set_cons_succ, List.set_cons_zero]
        refine lin_val (i := 1) (v := .agg #[.int .i64 1, .int .i64 1, .int .i64 1, .int .i64 0, .int .i64 0]) rfl rfl (by rfl) (by intro x hx; have f0 := hx.load 0 0 rfl rfl; have f1 := hx.load 0 1 rfl rfl; have f2 := hx.load 0 2 rfl rfl; have f3 := hx.load 0 3 rfl rfl; have f4 := hx.load 0 4 rfl rfl; go_simp; (first | done | exact rfl)) ?_
        simp only [List.set_cons_succ, List.set_cons_zero]
        refine lin_new (i := 2) rfl rfl (by rfl) [.int .i64 (ti (frm r1)), .int .i64 2, .int .i64 1, .int .i64 0, .int .i64 0, .int .i64 1, .int .i64 1, .int .i64 1, .int .i64 0, .int .i64 0] 30 (fun k => .slice (some ⟨k, 0, none⟩) 2 2) [some (.int .i64 (ti (frm r1))), some (.int .i64 2), some (.int .i64 1), some (.int .i64 0), some (.int .i64 0), some (.int .i64 1), some (.int .i64 1), some (.int .i64 1), some (.int .i64 0), some (.int .i64 0)] (lessC_refl _) (by intro x hx; go_simp; (first | done | exact rfl)) (fun k4 => ?_)
        simp only [List.set_cons_succ, List.set_cons_zero]
        refine lin_call (i := 3) (f := 10) (args := #[.slice (some ⟨k4, 0, none⟩) 2 2]) (v := .int .i64 (ti (chkD [Dc.mk (frm r1) 2#64 1#64 0#64 0#64, Dc.mk 1#64 1#64 1#64 0#64 0#64]))) (st_ups _ _) rfl rfl (by rfl) (fun x hx => by kernel_rfl) (by intro x hx; exact check_any [Dc.mk (frm r1) 2#64 1#64 0#64 0#64, Dc.mk 1#64 1#64 1#64 0#64 0#64] _ 2 2 x (arg_st hx 3 rfl [Dc.mk (frm r1) 2#64 1#64 0#64 0#64, Dc.mk 1#64 1#64 1#64 0#64 0#64] (by rfl)) (HT.out.up hx.below)) ?_
        simp only [List.set_cons_succ, List.set_cons_zero]
        refine lin_val (i := 4) (v := .bool (((chkD [Dc.mk (frm r1) 2#64 1#64 0#64 0#64, Dc.mk 1#64 1#64 1#64 0#64 0#64]) != 0#64))) rfl rfl (by rfl) (by intro x hx; go_simp; (first | done | exact neIT (chkD [Dc.mk (frm r1) 2#64 1#64 0#64 0#64, Dc.mk 1#64 1#64 1#64 0#64 0#64]) 0#64 | exact congrArg _ (neIT (chkD [Dc.mk (frm r1) 2#64 1#64 0#64 0#64, Dc.mk 1#64 1#64 1#64 0#64 0#64]) 0#64) | (rw [neIT (chkD [Dc.mk (frm r1) 2#64 1#64 0#64 0#64, Dc.mk 1#64 1#64 1#64 0#64 0#64]) 0#64]; done) | (rw [neIT (chkD [Dc.mk (frm r1) 2#64 1#64 0#64 0#64, Dc.mk 1#64 1#64 1#64 0#64 0#64]) 0#64]; rfl))) ?_
        simp only [List.set_cons_succ, List.set_cons_zero]
        refine lin_done ?_
        intro W8 hx
        replace HS := hid hx
        clear hx
        cases h2 : (((chkD [Dc.mk (frm r1) 2#64 1#64 0#64 0#64, Dc.mk 1#64 1#64 1#64 0#64 0#64]) != 0#64))
        · replace h2 := hid h2
          -- region 13
          go_upto_region 13 with fail
          refine lin_begin (St w [⟨k1, [some (.int .i64 1), some (.int .i64 1), some (.int .i64 1), some (.int .i64 0), some (.int .i64 0)], 30⟩, ⟨k2, [some (.int .i64 (ti (frm r1))), some (.int .i64 2), some (.int .i64 1), some (.int .i64 0), some (.int .i64 0)], 30⟩, ⟨k3, [some (.int .i64 (ti (frm r1))), some (.int .i64 2), some (.int .i64 1), some (.int .i64 0), some (.int .i64 0)], 30⟩, ⟨k4, [some (.int .i64 (ti (frm r1))), some (.int .i64 2), some (.int .i64 1), some (.int .i64 0), some (.int .i64 0), some (.int .i64 1), some (.int .i64 1), some (.int .i64 1), some (.int .i64 0), some (.int .i64 0)], 30⟩]) rfl HS.out ?_
          refine lin_val (i := 0) (v := .agg #[.int .i64 (ti (frm r1)), .int .i64 2, .int .i64 1, .int .i64 0, .int .i64 0]) rfl rfl (by rfl) (by intro x hx; have f0 := hx.load 1 0 rfl rfl; have f1 := hx.load 1 1 rfl rfl; have f2 := hx.load 1 2 rfl rfl; have f3 := hx.load 1 3 rfl rfl; have f4 := hx.load 1 4 rfl rfl; go_simp; (first | done | exact rfl)) ?_
          simp only [List.set_cons_succ, List.set_cons_zero]
          refine lin_new (i := 1) rfl rfl (by rfl) [.int .i64 0, .int .i64 0, .int .i64 0, .int .i64 0, .int .i64 0] 30 (fun k => .pointer (some ⟨k, 0, none⟩)) [some (.int .i64 0), some (.int .i64 0), some (.int .i64 0), some (.int .i64 0), some (.int .i64 0)] (lessC_refl _) (by intro x hx; go_simp; (first | done | exact rfl)) (fun k5 => ?_)
          simp only [List.set_cons_succ, List.set_cons_zero]
          refine lin_store (i := 2) (St w [⟨k1, [some (.int .i64 1), some (.int .i64 1), some (.int .i64 1), some (.int .i64 0), some (.int .i64 0)], 30⟩, ⟨k2, [some (.int .i64 (ti (frm r1))), some (.int .i64 2), some (.int .i64 1), some (.int .i64 0), some (.int .i64 0)], 30⟩, ⟨k3, [some (.int .i64 (ti (frm r1))), some (.int .i64 2), some (.int .i64 1), some (.int .i64 0), some (.int .i64 0)], 30⟩, ⟨k4, [some (.int .i64 (ti (frm r1))), some (.int .i64 2), some (.int .i64 1), some (.int .i64 0), some (.int .i64 0), some (.int .i64 1), some (.int .i64 1), some (.int .i64 1), some (.int .i64 0), some (.int .i64 0)], 30⟩, ⟨k5, [some (.int .i64 (ti (frm r1))), some (.int .i64 2), some (.int .i64 1), some (.int .i64 0), some (.int .i64 0)], 30⟩]) rfl rfl (by rfl) (fun x => (((((x.setCell ⟨k5, 0, none⟩ (.int .i64 (ti (frm r1)))).setCell ⟨k5, 1, none⟩ (.int .i64 2)).setCell ⟨k5, 2, none⟩ (.int .i64 1)).setCell ⟨k5, 3, none⟩ (.int .i64 0)).setCell ⟨k5, 4, none⟩ (.int .i64 0))) (by intro x hx; obtain ⟨u0, z0⟩ := hx.has 4 0 rfl (by simp); have q0 := hx.soft 4 0 rfl; obtain ⟨u1, z1⟩ := hx.has 4 1 rfl (by simp); have q1 := hx.soft 4 1 rfl; obtain ⟨u2, z2⟩ := hx.has 4 2 rfl (by simp); have q2 := hx.soft 4 2 rfl; obtain ⟨u3, z3⟩ := hx.has 4 3 rfl (by simp); have q3 := hx.soft 4 3 rfl; obtain ⟨u4, z4⟩ := hx.has 4 4 rfl (by simp); have q4 := hx.soft 4 4 rfl; go_simp; (first | done | rfl)) (fun x hx => (((((hx.put 4 0 (.int .i64 (ti (frm r1))) rfl).put 4 1 (.int .i64 2) rfl).put 4 2 (.int .i64 1) rfl).put 4 3 (.int .i64 0) rfl).put 4 4 (.int .i64 0) rfl)) ?_
          refine lin_done ?_
          intro W9 hx
          replace HS := hid hx
          clear hx
          -- region 14
          go_upto_region 14 with fail
          refine lin_begin (St w [⟨k1, [some (.int .i64 1), some (.int .i64 1), some (.int .i64 1), some (.int .i64 0), some (.int .i64 0)], 30⟩, ⟨k2, [some (.int .i64 (ti (frm r1))), some (.int .i64 2), some (.int .i64 1), some (.int .i64 0), some (.int .i64 0)], 30⟩, ⟨k3, [some (.int .i64 (ti (frm r1))), some (.int .i64 2), some (.int .i64 1), some (.int .i64 0), some (.int .i64 0)], 30⟩, ⟨k4, [some (.int .i64 (ti (frm r1))), some (.int .i64 2), some (.int .i64 1), some (.int .i64 0), some (.int .i64 0), some (.int .i64 1), some (.int .i64 1), some (.int .i64 1), some (.int .i64 0), some (.int .i64 0)], 30⟩, ⟨k5, [some (.int .i64 (ti (frm r1))), some (.int .i64 2), some (.int .i64 1), some (.int .i64 0), some (.int .i64 0)], 30⟩]) rfl HS.out ?_
          refine lin_val (i := 0) (v := .int .i64 (ti (frm r2))) rfl rfl (by rfl) (by intro x hx; go_simp; (first | done | exact rfl)) ?_
          simp only [List.set_cons_succ, List.set_cons_zero]
          refine lin_val (i := 1) (v := .pointer (some ⟨k5, 1, none⟩)) rfl rfl (by rfl) (by intro x hx; go_simp; (first | done | exact rfl)) ?_
          simp only [List.set_cons_succ, List.set_cons_zero]
          refine lin_store (i := 2) (St w [⟨k1, [some (.int .i64 1), some (.int .i64 1), some (.int .i64 1), some (.int .i64 0), some (.int .i64 0)], 30⟩, ⟨k2, [some (.int .i64 (ti (frm r1))), some (.int .i64 2), some (.int .i64 1), some (.int .i64 0), some (.int .i64 0)], 30⟩, ⟨k3, [some (.int .i64 (ti (frm r1))), some (.int .i64 2), some (.int .i64 1), some (.int .i64 0), some (.int .i64 0)], 30⟩, ⟨k4, [some (.int .i64 (ti (frm r1))), some (.int .i64 2), some (.int .i64 1), some (.int .i64 0), some (.int .i64 0), some (.int .i64 1), some (.int .i64 1), some (.int .i64 1), some (.int .i64 0), some (.int .i64 0)], 30⟩, ⟨k5, [some (.int .i64 (ti (frm r1))), some (.int .i64 (ti (frm r2))), some (.int .i64 1), some (.int .i64 0), some (.int .i64 0)], 30⟩]) rfl rfl (by rfl) (fun x => (x.setCell ⟨k5, 1, none⟩ (.int .i64 (ti (frm r2))))) (by intro x hx; obtain ⟨u0, z0⟩ := hx.has 4 1 rfl (by simp); have q0 := hx.soft 4 1 rfl; go_simp; (first | done | rfl)) (fun x hx => (hx.put 4 1 (.int .i64 (ti (frm r2))) rfl)) ?_
          refine lin_done ?_
          intro W10 hx
          replace HS := hid hx
          clear hx
          -- region 15
          go_upto_region 15 with fail
          refine lin_begin (St w [⟨k1, [some (.int .i64 1), some (.int .i64 1), some (.int .i64 1), some (.int .i64 0), some (.int .i64 0)], 30⟩, ⟨k2, [some (.int .i64 (ti (frm r1))), some (.int .i64 2), some (.int .i64 1), some (.int .i64 0), some (.int .i64 0)], 30⟩, ⟨k3, [some (.int .i64 (ti (frm r1))), some (.int .i64 2), some (.int .i64 1), some (.int .i64 0), some (.int .i64 0)], 30⟩, ⟨k4, [some (.int .i64 (ti (frm r1))), some (.int .i64 2), some (.int .i64 1), some (.int .i64 0), some (.int .i64 0), some (.int .i64 1), some (.int .i64 1), some (.int .i64 1), some (.int .i64 0), some (.int .i64 0)], 30⟩, ⟨k5, [some (.int .i64 (ti (frm r1))), some (.int .i64 (ti (frm r2))), some (.int .i64 1), some (.int .i64 0), some (.int .i64 0)], 30⟩]) rfl HS.out ?_
          refine lin_val (i := 0) (v := .agg #[.int .i64 (ti (frm r1)), .int .i64 2, .int .i64 1, .int .i64 0, .int .i64 0]) rfl rfl (by rfl) (by intro x hx; have f0 := hx.load 1 0 rfl rfl; have f1 := hx.load 1 1 rfl rfl; have f2 := hx.load 1 2 rfl rfl; have f3 := hx.load 1 3 rfl rfl; have f4 := hx.load 1 4 rfl rfl; go_simp; (first | done | exact rfl)) ?_
          simp only [List.set_cons_succ, List.set_cons_zero]
          refine lin_new (i := 1) rfl rfl (by rfl) [.int .i64 0, .int .i64 0, .int .i64 0, .int .i64 0, .int .i64 0] 30 (fun k => .pointer (some ⟨k, 0, none⟩)) [some (.int .i64 0), some (.int .i64 0), some (.int .i64 0), some (.int .i64 0), some (.int .i64 0)] (lessC_refl _) (by intro x hx; go_simp; (first | done | exact rfl)) (fun k6 => ?_)
          simp only [List.set_cons_succ, List.set_cons_zero]
          refine lin_store (i := 2) (St w [⟨k1, [some (.int .i64 1), some (.int .i64 1), some (.int .i64 1), some (.int .i64 0), some (.int .i64 0)], 30⟩, ⟨k2, [some (.int .i64 (ti (frm r1))), some (.int .i64 2), some (.int .i64 1), some (.int .i64 0), some (.int .i64 0)], 30⟩, ⟨k3, [some (.int .i64 (ti (frm r1))), some (.int .i64 2), some (.int .i64 1), some (.int .i64 0), some (.int .i64 0)], 30⟩, ⟨k4, [some (.int .i64 (ti (frm r1))), some (.int .i64 2), some (.int .i64 1), some (.int .i64 0), some (.int .i64 0), some (.int .i64 1), some (.int .i64 1), some (.int .i64 1), some (.int .i64 0), some (.int .i64 0)], 30⟩, ⟨k5, [some (.int .i64 (ti (frm r1))), some (.int .i64 (ti (frm r2))), some (.int .i64 1), some (.int .i64 0), some (.int .i64 0)], 30⟩, ⟨k6, [some (.int .i64 (ti (frm r1))), some (.int .i64 2), some (.int .i64 1), some (.int .i64 0), some (.int .i64 0)], 30⟩]) rfl rfl (by rfl) (fun x => (((((x.setCell ⟨k6, 0, none⟩ (.int .i64 (ti (frm r1)))).setCell ⟨k6, 1, none⟩ (.int .i64 2)).setCell ⟨k6, 2, none⟩ (.int .i64 1)).setCell ⟨k6, 3, none⟩ (.int .i64 0)).setCell ⟨k6, 4, none⟩ (.int .i64 0))) (by intro x hx; obtain ⟨u0, z0⟩ := hx.has 5 0 rfl (by simp); have q0 := hx.soft 5 0 rfl; obtain ⟨u1, z1⟩ := hx.has 5 1 rfl (by simp); have q1 := hx.soft 5 1 rfl; obtain ⟨u2, z2⟩ := hx.has 5 2 rfl (by simp); have q2 := hx.soft 5 2 rfl; obtain ⟨u3, z3⟩ := hx.has 5 3 rfl (by simp); have q3 := hx.soft 5 3 rfl; obtain ⟨u4, z4⟩ := hx.has 5 4 rfl (by simp); have q4 := hx.soft 5 4 rfl; go_simp; (first | done | rfl)) (fun x hx => (((((hx.put 5 0 (.int .i64 (ti (frm r1))) rfl).put 5 1 (.int .i64 2) rfl).put 5 2 (.int .i64 1) rfl).put 5 3 (.int .i64 0) rfl).put 5 4 (.int .i64 0) rfl)) ?_
          refine lin_done ?_
          intro W11 hx
          replace HS := hid hx
          clear hx
          -- region 16
          go_upto_region 16 with fail
          refine lin_begin (St w [⟨k1, [some (.int .i64 1), some (.int .i64 1), some (.int .i64 1), some (.int .i64 0), some (.int .i64 0)], 30⟩, ⟨k2, [some (.int .i64 (ti (frm r1))), some (.int .i64 2), some (.int .i64 1), some (.int .i64 0), some (.int .i64 0)], 30⟩, ⟨k3, [some (.int .i64 (ti (frm r1))), some (.int .i64 2), some (.int .i64 1), some (.int .i64 0), some (.int .i64 0)], 30⟩, ⟨k4, [some (.int .i64 (ti (frm r1))), some (.int .i64 2), some (.int .i64 1), some (.int .i64 0), some (.int .i64 0), some (.int .i64 1), some (.int .i64 1), some (.int .i64 1), some (.int .i64 0), some (.int .i64 0)], 30⟩, ⟨k5, [some (.int .i64 (ti (frm r1))), some (.int .i64 (ti (frm r2))), some (.int .i64 1), some (.int .i64 0), some (.int .i64 0)], 30⟩, ⟨k6, [some (.int .i64 (ti (frm r1))), some (.int .i64 2), some (.int .i64 1), some (.int .i64 0), some (.int .i64 0)], 30⟩]) rfl HS.out ?_
          refine lin_val (i := 0) (v := .int .i64 (ti (frm r2))) rfl rfl (by rfl) (by intro x hx; go_simp; (first | done | exact rfl)) ?_
          simp only [List.set_cons_succ, List.set_cons_zero]
          refine lin_val (i := 1) (v := .pointer (some ⟨k6, 2, none⟩)) rfl rfl (by rfl) (by intro x hx; go_simp; (first | done | exact rfl)) ?_
          simp only [List.set_cons_succ, List.set_cons_zero]
          refine lin_store (i := 2) (St w [⟨k1, [some (.int .i64 1), some (.int .i64 1), some (.int .i64 1), some (.int .i64 0), some (.int .i64 0)], 30⟩, ⟨k2, [some (.int .i64 (ti (frm r1))), some (.int .i64 2), some (.int .i64 1), some (.int .i64 0), some (.int .i64 0)], 30⟩, ⟨k3, [some (.int .i64 (ti (frm r1))), some (.int .i64 2), some (.int .i64 1), some (.int .i64 0), some (.int .i64 0)], 30⟩, ⟨k4, [some (.int .i64 (ti (frm r1))), some (.int .i64 2), some (.int .i64 1), some (.int .i64 0), some (.int .i64 0), some (.int .i64 1), some (.int .i64 1), some (.int .i64 1), some (.int .i64 0), some (.int .i64 0)], 30⟩, ⟨k5, [some (.int .i64 (ti (frm r1))), some (.int .i64 (ti (frm r2))), some (.int .i64 1), some (.int .i64 0), some (.int .i64 0)], 30⟩, ⟨k6, [some (.int .i64 (ti (frm r1))), some (.int .i64 2), some (.int .i64 (ti (frm r2))), some (.int .i64 0), some (.int .i64 0)], 30⟩]) rfl rfl (by rfl) (fun x => (x.setCell ⟨k6, 2, none⟩ (.int .i64 (ti (frm r2))))) (by intro x hx; obtain ⟨u0, z0⟩ := hx.has 5 2 rfl (by simp); have q0 := hx.soft 5 2 rfl; go_simp; (first | done | rfl)) (fun x hx => (hx.put 5 2 (.int .i64 (ti (frm r2))) rfl)) ?_
          refine lin_done ?_
          intro W12 hx
          replace HS := hid hx
          clear hx
          -- region 17
          go_upto_region 17 with fail
          refine lin_begin (St w [⟨k1, [some (.int .i64 1), some (.int .i64 1), some (.int .i64 1), some (.int .i64 0), some (.int .i64 0)], 30⟩, ⟨k2, [some (.int .i64 (ti (frm r1))), some (.int .i64 2), some (.int .i64 1), some (.int .i64 0), some (.int .i64 0)], 30⟩, ⟨k3, [some (.int .i64 (ti (frm r1))), some (.int .i64 2), some (.int .i64 1), some (.int .i64 0), some (.int .i64 0)], 30⟩, ⟨k4, [some (.int .i64 (ti (frm r1))), some (.int .i64 2), some (.int .i64 1), some (.int .i64 0), some (.int .i64 0), some (.int .i64 1), some (.int .i64 1), some (.int .i64 1), some (.int .i64 0), some (.int .i64 0)], 30⟩, ⟨k5, [some (.int .i64 (ti (frm r1))), some (.int .i64 (ti (frm r2))), some (.int .i64 1), some (.int .i64 0), some (.int .i64 0)], 30⟩, ⟨k6, [some (.int .i64 (ti (frm r1))), some (.int .i64 2), some (.int .i64 (ti (frm r2))), some (.int .i64 0), some (.int .i64 0)], 30⟩]) rfl HS.out ?_
          refine lin_val (i := 0) (v := .agg #[.int .i64 (ti (frm r1)), .int .i64 2, .int .i64 1, .int .i64 0, .int .i64 0]) rfl rfl (by rfl) (by intro x hx; have f0 := hx.load 1 0 rfl rfl; have f1 := hx.load 1 1 rfl rfl; have f2 := hx.load 1 2 rfl rfl; have f3 := hx.load 1 3 rfl rfl; have f4 := hx.load 1 4 rfl rfl; go_simp; (first | done | exact rfl)) ?_
          simp only [List.set_cons_succ, List.set_cons_zero]
          refine lin_new (i := 1) rfl rfl (by rfl) [.int .i64 0, .int .i64 0, .int .i64 0, .int .i64 0, .int .i64 0] 30 (fun k => .pointer (some ⟨k, 0, none⟩)) [some (.int .i64 0), some (.int .i64 0), some (.int .i64 0), some (.int .i64 0), some (.int .i64 0)] (lessC_refl _) (by intro x hx; go_simp; (first | done | exact rfl)) (fun k7 => ?_)
          simp only [List.set_cons_succ, List.set_cons_zero]
          refine lin_store (i := 2) (St w [⟨k1, [some (.int .i64 1), some (.int .i64 1), some (.int .i64 1), some (.int .i64 0), some (.int .i64 0)], 30⟩, ⟨k2, [some (.int .i64 (ti (frm r1))), some (.int .i64 2), some (.int .i64 1), some (.int .i64 0), some (.int .i64 0)], 30⟩, ⟨k3, [some (.int .i64 (ti (frm r1))), some (.int .i64 2), some (.int .i64 1), some (.int .i64 0), some (.int .i64 0)], 30⟩, ⟨k4, [some (.int .i64 (ti (frm r1))), some (.int .i64 2), some (.int .i64 1), some (.int .i64 0), some (.int .i64 0), some (.int .i64 1), some (.int .i64 1), some (.int .i64 1), some (.int .i64 0), some (.int .i64 0)], 30⟩, ⟨k5, [some (.int .i64 (ti (frm r1))), some (.int .i64 (ti (frm r2))), some (.int .i64 1), some (.int .i64 0), some (.int .i64 0)], 30⟩, ⟨k6, [some (.int .i64 (ti (frm r1))), some (.int .i64 2), some (.int .i64 (ti (frm r2))), some (.int .i64 0), some (.int .i64 0)], 30⟩, ⟨k7, [some (.int .i64 (ti (frm r1))), some (.int .i64 2), some (.int .i64 1), some (.int .i64 0), some (.int .i64 0)], 30⟩]) rfl rfl (by rfl) (fun x => (((((x.setCell ⟨k7, 0, none⟩ (.int .i64 (ti (frm r1)))).setCell ⟨k7, 1, none⟩ (.int .i64 2)).setCell ⟨k7, 2, none⟩ (.int .i64 1)).setCell ⟨k7, 3, none⟩ (.int .i64 0)).setCell ⟨k7, 4, none⟩ (.int .i64 0))) (by intro x hx; obtain ⟨u0, z0⟩ := hx.has 6 0 rfl (by simp); have q0 := hx.soft 6 0 rfl; obtain ⟨u1, z1⟩ := hx.has 6 1 rfl (by simp); have q1 := hx.soft 6 1 rfl; obtain ⟨u2, z2⟩ := hx.has 6 2 rfl (by simp); have q2 := hx.soft 6 2 rfl; obtain ⟨u3, z3⟩ := hx.has 6 3 rfl (by simp); have q3 := hx.soft 6 3 rfl; obtain ⟨u4, z4⟩ := hx.has 6 4 rfl (by simp); have q4 := hx.soft 6 4 rfl; go_simp; (first | done | rfl)) (fun x hx => (((((hx.put 6 0 (.int .i64 (ti (frm r1))) rfl).put 6 1 (.int .i64 2) rfl).put 6 2 (.int .i64 1) rfl).put 6 3 (.int .i64 0) rfl).put 6 4 (.int .i64 0) rfl)) ?_
          refine lin_done ?_
          intro W13 hx
          replace HS := hid hx
          clear hx
          -- region 18
          go_upto_region 18 with fail
          refine lin_begin (St w [⟨k1, [some (.int .i64 1), some (.int .i64 1), some (.int .i64 1), some (.int .i64 0), some (.int .i64 0)], 30⟩, ⟨k2, [some (.int .i64 (ti (frm r1))), some (.int .i64 2), some (.int .i64 1), some (.int .i64 0), some (.int .i64 0)], 30⟩, ⟨k3, [some (.int .i64 (ti (frm r1))), some (.int .i64 2), some (.int .i64 1), some (.int .i64 0), some (.int .i64 0)], 30⟩, ⟨k4, [some (.int .i64 (ti (frm r1))), some (.int .i64 2), some (.int .i64 1), some (.int .i64 0), some (.int .i64 0), some (.int .i64 1), some (.int .i64 1), some (.int .i64 1), some (.int .i64 0), some (.int .i64 0)], 30⟩, ⟨k5, [some (.int .i64 (ti (frm r1))), some (.int .i64 (ti (frm r2))), some (.int .i64 1), some (.int .i64 0), some (.int .i64 0)], 30⟩, ⟨k6, [some (.int .i64 (ti (frm r1))), some (.int .i64 2), some (.int .i64 (ti (frm r2))), some (.int .i64 0), some (.int .i64 0)], 30⟩, ⟨k7, [some (.int .i64 (ti (frm r1))), some (.int .i64 2), some (.int .i64 1), some (.int .i64 0), some (.int .i64 0)], 30⟩]) rfl HS.out ?_
          refine lin_val (i := 0) (v := .int .i64 (ti (frm r2))) rfl rfl (by rfl) (by intro x hx; go_simp; (first | done | exact rfl)) ?_
          simp only [List.set_cons_succ, List.set_cons_zero]
          refine lin_val (i := 1) (v := .pointer (some ⟨k7, 3, none⟩)) rfl rfl (by rfl) (by intro x hx; go_simp; (first | done | exact rfl)) ?_
          simp only [List.set_cons_succ, List.set_cons_zero]
          refine lin_store (i := 2) (St w [⟨k1, [some (.int .i64 1), some (.int .i64 1), some (.int .i64 1), some (.int .i64 0), some (.int .i64 0)], 30⟩, ⟨k2, [some (.int .i64 (ti (frm r1))), some (.int .i64 2), some (.int .i64 1), some (.int .i64 0), some (.int .i64 0)], 30⟩, ⟨k3, [some (.int .i64 (ti (frm r1))), some (.int .i64 2), some (.int .i64 1), some (.int .i64 0), some (.int .i64 0)], 30⟩, ⟨k4, [some (.int .i64 (ti (frm r1))), some (.int .i64 2), some (.int .i64 1), some (.int .i64 0), some (.int .i64 0), some (.int .i64 1), some (.int .i64 1), some (.int .i64 1), some (.int .i64 0), some (.int .i64 0)], 30⟩, ⟨k5, [some (.int .i64 (ti (frm r1))), some (.int .i64 (ti (frm r2))), some (.int .i64 1), some (.int .i64 0), some (.int .i64 0)], 30⟩, ⟨k6, [some (.int .i64 (ti (frm r1))), some (.int .i64 2), some (.int .i64 (ti (frm r2))), some (.int .i64 0), some (.int .i64 0)], 30⟩, ⟨k7, [some (.int .i64 (ti (frm r1))), some (.int .i64 2), some (.int .i64 1), some (.int .i64 (ti (frm r2))), some (.int .i64 0)], 30⟩]) rfl rfl (by rfl) (fun x => (x.setCell ⟨k7, 3, none⟩ (.int .i64 (ti (frm r2))))) (by intro x hx; obtain ⟨u0, z0⟩ := hx.has 6 3 rfl (by simp); have q0 := hx.soft 6 3 rfl; go_simp; (first | done | rfl)) (fun x hx => (hx.put 6 3 (.int .i64 (ti (frm r2))) rfl)) ?_
          refine lin_done ?_
          intro W14 hx
          replace HS := hid hx
          clear hx
          -- region 19
          go_upto_region 19 with fail
          refine lin_begin (St w [⟨k1, [some (.int .i64 1), some (.int .i64 1), some (.int .i64 1), some (.int .i64 0), some (.int .i64 0)], 30⟩, ⟨k2, [some (.int .i64 (ti (frm r1))), some (.int .i64 2), some (.int .i64 1), some (.int .i64 0), some (.int .i64 0)], 30⟩, ⟨k3, [some (.int .i64 (ti (frm r1))), some (.int .i64 2), some (.int .i64 1), some (.int .i64 0), some (.int .i64 0)], 30⟩, ⟨k4, [some (.int .i64 (ti (frm r1))), some (.int .i64 2), some (.int .i64 1), some (.int .i64 0), some (.int .i64 0), some (.int .i64 1), some (.int .i64 1), some (.int .i64 1), some (.int .i64 0), some (.int .i64 0)], 30⟩, ⟨k5, [some (.int .i64 (ti (frm r1))), some (.int .i64 (ti (frm r2))), some (.int .i64 1), some (.int .i64 0), some (.int .i64 0)], 30⟩, ⟨k6, [some (.int .i64 (ti (frm r1))), some (.int .i64 2), some (.int .i64 (ti (frm r2))), some (.int .i64 0), some (.int .i64 0)], 30⟩, ⟨k7, [some (.int .i64 (ti (frm r1))), some (.int .i64 2), some (.int .i64 1), some (.int .i64 (ti (frm r2))), some (.int .i64 0)], 30⟩]) rfl HS.out ?_
          refine lin_val (i := 0) (v := .agg #[.int .i64 (ti (frm r1)), .int .i64 2, .int .i64 1, .int .i64 0, .int .i64 0]) rfl rfl (by rfl) (by intro x hx; have f0 := hx.load 1 0 rfl rfl; have f1 := hx.load 1 1 rfl rfl; have f2 := hx.load 1 2 rfl rfl; have f3 := hx.load 1 3 rfl rfl; have f4 := hx.load 1 4 rfl rfl; go_simp; (first | done | exact rfl)) ?_
          simp only [List.set_cons_succ, List.set_cons_zero]
          refine lin_new (i := 1) rfl rfl (by rfl) [.int .i64 0, .int .i64 0, .int .i64 0, .int .i64 0, .int .i64 0] 30 (fun k => .pointer (some ⟨k, 0, none⟩)) [some (.int .i64 0), some (.int .i64 0), some (.int .i64 0), some (.int .i64 0), some (.int .i64 0)] (lessC_refl _) (by intro x hx; go_simp; (first | done | exact rfl)) (fun k8 => ?_)
          simp only [List.set_cons_succ, List.set_cons_zero]
          refine lin_store (i := 2) (St w [⟨k1, [some (.int .i64 1), some (.int .i64 1), some (.int .i64 1), some (.int .i64 0), some (.int .i64 0)], 30⟩, ⟨k2, [some (.int .i64 (ti (frm r1))), some (.int .i64 2), some (.int .i64 1), some (.int .i64 0), some (.int .i64 0)], 30⟩, ⟨k3, [some (.int .i64 (ti (frm r1))), some (.int .i64 2), some (.int .i64 1), some (.int .i64 0), some (.int .i64 0)], 30⟩, ⟨k4, [some (.int .i64 (ti (frm r1))), some (.int .i64 2), some (.int .i64 1), some (.int .i64 0), some (.int .i64 0), some (.int .i64 1), some (.int .i64 1), some (.int .i64 1), some (.int .i64 0), some (.int .i64 0)], 30⟩, ⟨k5, [some (.int .i64 (ti (frm r1))), some (.int .i64 (ti (frm r2))), some (.int .i64 1), some (.int .i64 0), some (.int .i64 0)], 30⟩, ⟨k6, [some (.int .i64 (ti (frm r1))), some (.int .i64 2), some (.int .i64 (ti (frm r2))), some (.int .i64 0), some (.int .i64 0)], 30⟩, ⟨k7, [some (.int .i64 (ti (frm r1))), some (.int .i64 2), some (.int .i64 1), some (.int .i64 (ti (frm r2))), some (.int .i64 0)], 30⟩, ⟨k8, [some (.int .i64 (ti (frm r1))), some (.int .i64 2), some (.int .i64 1), some (.int .i64 0), some (.int .i64 0)], 30⟩]) rfl rfl (by rfl) (fun x => (((((x.setCell ⟨k8, 0, none⟩ (.int .i64 (ti (frm r1)))).setCell ⟨k8, 1, none⟩ (.int .i64 2)).setCell ⟨k8, 2, none⟩ (.int .i64 1)).setCell ⟨k8, 3, none⟩ (.int .i64 0)).setCell ⟨k8, 4, none⟩ (.int .i64 0))) (by intro x hx; obtain ⟨u0, z0⟩ := hx.has 7 0 rfl (by simp); have q0 := hx.soft 7 0 rfl; obtain ⟨u1, z1⟩ := hx.has 7 1 rfl (by simp); have q1 := hx.soft 7 1 rfl; obtain ⟨u2, z2⟩ := hx.has 7 2 rfl (by simp); have q2 := hx.soft 7 2 rfl; obtain ⟨u3, z3⟩ := hx.has 7 3 rfl (by simp); have q3 := hx.soft 7 3 rfl; obtain ⟨u4, z4⟩ := hx.has 7 4 rfl (by simp); have q4 := hx.soft 7 4 rfl; go_simp; (first | done | rfl)) (fun x hx => (((((hx.put 7 0 (.int .i64 (ti (frm r1))) rfl).put 7 1 (.int .i64 2) rfl).put 7 2 (.int .i64 1) rfl).put 7 3 (.int .i64 0) rfl).put 7 4 (.int .i64 0) rfl)) ?_
          refine lin_done ?_
          intro W15 hx
          replace HS := hid hx
          clear hx
          -- region 20
          go_upto_region 20 with fail
          refine lin_begin (St w [⟨k1, [some (.int .i64 1), some (.int .i64 1), some (.int .i64 1), some (.int .i64 0), some (.int .i64 0)], 30⟩, ⟨k2, [some (.int .i64 (ti (frm r1))), some (.int .i64 2), some (.int .i64 1), some (.int .i64 0), some (.int .i64 0)], 30⟩, ⟨k3, [some (.int .i64 (ti (frm r1))), some (.int .i64 2), some (.int .i64 1), some (.int .i64 0), some (.int .i64 0)], 30⟩, ⟨k4, [some (.int .i64 (ti (frm r1))), some (.int .i64 2), some (.int .i64 1), some (.int .i64 0), some (.int .i64 0), some (.int .i64 1), some (.int .i64 1), some (.int .i64 1), some (.int .i64 0), some (.int .i64 0)], 30⟩, ⟨k5, [some (.int .i64 (ti (frm r1))), some (.int .i64 (ti (frm r2))), some (.int .i64 1), some (.int .i64 0), some (.int .i64 0)], 30⟩, ⟨k6, [some (.int .i64 (ti (frm r1))), some (.int .i64 2), some (.int .i64 (ti (frm r2))), some (.int .i64 0), some (.int .i64 0)], 30⟩, ⟨k7, [some (.int .i64 (ti (frm r1))), some (.int .i64 2), some (.int .i64 1), some (.int .i64 (ti (frm r2))), some (.int .i64 0)], 30⟩, ⟨k8, [some (.int .i64 (ti (frm r1))), some (.int .i64 2), some (.int .i64 1), some (.int .i64 0), some (.int .i64 0)], 30⟩]) rfl HS.out ?_
          refine lin_val (i := 0) (v := .int .i64 (ti (frm r2))) rfl rfl (by rfl) (by intro x hx; go_simp; (first | done | exact rfl)) ?_
          simp only [List.set_cons_succ, List.set_cons_zero]
          refine lin_val (i := 1) (v := .pointer (some ⟨k8, 4, none⟩)) rfl rfl (by rfl) (by intro x hx; go_simp; (first | done | exact rfl)) ?_
          simp only [List.set_cons_succ, List.set_cons_zero]
          refine lin_store (i := 2) (St w [⟨k1, [some (.int .i64 1), some (.int .i64 1), some (.int .i64 1), some (.int .i64 0), some (.int .i64 0)], 30⟩, ⟨k2, [some (.int .i64 (ti (frm r1))), some (.int .i64 2), some (.int .i64 1), some (.int .i64 0), some (.int .i64 0)], 30⟩, ⟨k3, [some (.int .i64 (ti (frm r1))), some (.int .i64 2), some (.int .i64 1), some (.int .i64 0), some (.int .i64 0)], 30⟩, ⟨k4, [some (.int .i64 (ti (frm r1))), some (.int .i64 2), some (.int .i64 1), some (.int .i64 0), some (.int .i64 0), some (.int .i64 1), some (.int .i64 1), some (.int .i64 1), some (.int .i64 0), some (.int .i64 0)], 30⟩, ⟨k5, [some (.int .i64 (ti (frm r1))), some (.int .i64 (ti (frm r2))), some (.int .i64 1), some (.int .i64 0), some (.int .i64 0)], 30⟩, ⟨k6, [some (.int .i64 (ti (frm r1))), some (.int .i64 2), some (.int .i64 (ti (frm r2))), some (.int .i64 0), some (.int .i64 0)], 30⟩, ⟨k7, [some (.int .i64 (ti (frm r1))), some (.int .i64 2), some (.int .i64 1), some (.int .i64 (ti (frm r2))), some (.int .i64 0)], 30⟩, ⟨k8, [some (.int .i64 (ti (frm r1))), some (.int .i64 2), some (.int .i64 1), some (.int .i64 0), some (.int .i64 (ti (frm r2)))], 30⟩]) rfl rfl (by rfl) (fun x => (x.setCell ⟨k8, 4, none⟩ (.int .i64 (ti (frm r2))))) (by intro x hx; obtain ⟨u0, z0⟩ := hx.has 7 4 rfl (by simp); have q0 := hx.soft 7 4 rfl; go_simp; (first | done | rfl)) (fun x hx => (hx.put 7 4 (.int .i64 (ti (frm r2))) rfl)) ?_
          refine lin_done ?_
          intro W16 hx
          replace HS := hid hx
          clear hx
          -- region 21
          go_upto_region 21 with fail
          refine lin_begin (St w [⟨k1, [some (.int .i64 1), some (.int .i64 1), some (.int .i64 1), some (.int .i64 0), some (.int .i64 0)], 30⟩, ⟨k2, [some (.int .i64 (ti (frm r1))), some (.int .i64 2), some (.int .i64 1), some (.int .i64 0), some (.int .i64 0)], 30⟩, ⟨k3, [some (.int .i64 (ti (frm r1))), some (.int .i64 2), some (.int .i64 1), some (.int .i64 0), some (.int .i64 0)], 30⟩, ⟨k4, [some (.int .i64 (ti (frm r1))), some (.int .i64 2), some (.int .i64 1), some (.int .i64 0), some (.int .i64 0), some (.int .i64 1), some (.int .i64 1), some (.int .i64 1), some (.int .i64 0), some (.int .i64 0)], 30⟩, ⟨k5, [some (.int .i64 (ti (frm r1))), some (.int .i64 (ti (frm r2))), some (.int .i64 1), some (.int .i64 0), some (.int .i64 0)], 30⟩, ⟨k6, [some (.int .i64 (ti (frm r1))), some (.int .i64 2), some (.int .i64 (ti (frm r2))), some (.int .i64 0), some (.int .i64 0)], 30⟩, ⟨k7, [some (.int .i64 (ti (frm r1))), some (.int .i64 2), some (.int .i64 1), some (.int .i64 (ti (frm r2))), some (.int .i64 0)], 30⟩, ⟨k8, [some (.int .i64 (ti (frm r1))), some (.int .i64 2), some (.int .i64 1), some (.int .i64 0), some (.int .i64 (ti (frm r2)))], 30⟩]) rfl HS.out ?_
          refine lin_val (i := 0) (v := .agg #[.int .i64 (ti (frm r1)), .int .i64 2, .int .i64 1, .int .i64 0, .int .i64 0]) rfl rfl (by rfl) (by intro x hx; have f0 := hx.load 1 0 rfl rfl; have f1 := hx.load 1 1 rfl rfl; have f2 := hx.load 1 2 rfl rfl; have f3 := hx.load 1 3 rfl rfl; have f4 := hx.load 1 4 rfl rfl; go_simp; (first | done | exact rfl)) ?_
          simp only [List.set_cons_succ, List.set_cons_zero]
          refine lin_val (i := 1) (v := .agg #[.int .i64 1, .int .i64 1, .int .i64 1, .int .i64 0, .int .i64 0]) rfl rfl (by rfl) (by intro x hx; have f0 := hx.load 0 0 rfl rfl; have f1 := hx.load 0 1 rfl rfl; have f2 := hx.load 0 2 rfl rfl; have f3 := hx.load 0 3 rfl rfl; have f4 := hx.load 0 4 rfl rfl; go_simp; (first | done | exact rfl)) ?_
          simp only [List.set_cons_succ, List.set_cons_zero]
          refine lin_new (i := 2) rfl rfl (by rfl) [.int .i64 (ti (frm r1)), .int .i64 2, .int .i64 1, .int .i64 0, .int .i64 0, .int .i64 1, .int .i64 1, .int .i64 1, .int .i64 0, .int .i64 0] 30 (fun k => .slice (some ⟨k, 0, none⟩) 2 2) [some (.int .i64 (ti (frm r1))), some (.int .i64 2), some (.int .i64 1), some (.int .i64 0), some (.int .i64 0), some (.int .i64 1), some (.int .i64 1), some (.int .i64 1), some (.int .i64 0), some (.int .i64 0)] (lessC_refl _) (by intro x hx; go_simp; (first | done | exact rfl)) (fun k9 => ?_)
          simp only [List.set_cons_succ, List.set_cons_zero]
          refine lin_call (i := 3) (f := 3) (args := #[.slice (some ⟨k9, 0, none⟩) 2 2]) (v := .bool true) (st_ups _ _) rfl rfl (by rfl) (fun x hx => by kernel_rfl) (by intro x hx; exact declChecks_any _ 2 2 [Dc.mk (frm r1) 2#64 1#64 0#64 0#64, Dc.mk 1#64 1#64 1#64 0#64 0#64] x (arg_st hx 8 rfl [Dc.mk (frm r1) 2#64 1#64 0#64 0#64, Dc.mk 1#64 1#64 1#64 0#64 0#64] (by rfl)) (by omega) (HT.out.up hx.below)) ?_
          simp only [List.set_cons_succ, List.set_cons_zero]
          refine lin_val (i := 4) (v := .bool false) rfl rfl (by rfl) (by intro x hx; go_simp; (first | done | exact rfl)) ?_
          simp only [List.set_cons_succ, List.set_cons_zero]
          refine lin_val (i := 5) (v := .bool false) rfl rfl (by rfl) (by intro x hx; go_simp; (first | done | exact rfl)) ?_
          simp only [List.set_cons_succ, List.set_cons_zero]
          refine lin_val (i := 6) (v := .agg #[.int .i64 (ti (frm r1)), .int .i64 (ti (frm r2)), .int .i64 1, .int .i64 0, .int .i64 0]) rfl rfl (by rfl) (by intro x hx; have f0 := hx.load 4 0 rfl rfl; have f1 := hx.load 4 1 rfl rfl; have f2 := hx.load 4 2 rfl rfl; have f3 := hx.load 4 3 rfl rfl; have f4 := hx.load 4 4 rfl rfl; go_simp; (first | done | exact rfl)) ?_
          simp only [List.set_cons_succ, List.set_cons_zero]
          refine lin_val (i := 7) (v := .agg #[.int .i64 1, .int .i64 1, .int .i64 1, .int .i64 0, .int .i64 0]) rfl rfl (by rfl) (by intro x hx; have f0 := hx.load 0 0 rfl rfl; have f1 := hx.load 0 1 rfl rfl; have f2 := hx.load 0 2 rfl rfl; have f3 := hx.load 0 3 rfl rfl; have f4 := hx.load 0 4 rfl rfl; go_simp; (first | done | exact rfl)) ?_
          simp only [List.set_cons_succ, List.set_cons_zero]
          refine lin_new (i := 8) rfl rfl (by rfl) [.int .i64 (ti (frm r1)), .int .i64 (ti (frm r2)), .int .i64 1, .int .i64 0, .int .i64 0, .int .i64 1, .int .i64 1, .int .i64 1, .int .i64 0, .int .i64 0] 30 (fun k => .slice (some ⟨k, 0, none⟩) 2 2) [some (.int .i64 (ti (frm r1))), some (.int .i64 (ti (frm r2))), some (.int .i64 1), some (.int .i64 0), some (.int .i64 0), some (.int .i64 1), some (.int .i64 1), some (.int .i64 1), some (.int .i64 0), some (.int .i64 0)] (lessC_refl _) (by intro x hx; go_simp; (first | done | exact rfl)) (fun k10 => ?_)
          simp only [List.set_cons_succ, List.set_cons_zero]
          refine lin_call (i := 9) (f := 3) (args := #[.slice (some ⟨k10, 0, none⟩) 2 2]) (v := .bool true) (st_ups _ _) rfl rfl (by rfl) (fun x hx => by kernel_rfl) (by intro x hx; exact declChecks_any _ 2 2 [Dc.mk (frm r1) (frm r2) 1#64 0#64 0#64, Dc.mk 1#64 1#64 1#64 0#64 0#64] x (arg_st hx 9 rfl [Dc.mk (frm r1) (frm r2) 1#64 0#64 0#64, Dc.mk 1#64 1#64 1#64 0#64 0#64] (by rfl)) (by omega) (HT.out.up hx.below)) ?_
          simp only [List.set_cons_succ, List.set_cons_zero]
          refine lin_val (i := 10) (v := .bool false) rfl rfl (by rfl) (by intro x hx; go_simp; (first | done | exact rfl)) ?_
          simp only [List.set_cons_succ, List.set_cons_zero]
          refine lin_val (i := 11) (v := .bool false) rfl rfl (by rfl) (by intro x hx; go_simp; (first | done | exact rfl)) ?_
          simp only [List.set_cons_succ, List.set_cons_zero]
          refine lin_val (i := 12) (v := .bool false) rfl rfl (by rfl) (by intro x hx; go_simp; (first | done | exact rfl)) ?_
          simp only [List.set_cons_succ, List.set_cons_zero]
          refine lin_val (i := 13) (v := .agg #[.int .i64 (ti (frm r1)), .int .i64 2, .int .i64 (ti (frm r2)), .int .i64 0, .int .i64 0]) rfl rfl (by rfl) (by intro x hx; have f0 := hx.load 5 0 rfl rfl; have f1 := hx.load 5 1 rfl rfl; have f2 := hx.load 5 2 rfl rfl; have f3 := hx.load 5 3 rfl rfl; have f4 := hx.load 5 4 rfl rfl; go_simp; (first | done | exact rfl)) ?_
          simp only [List.set_cons_succ, List.set_cons_zero]
          refine lin_val (i := 14) (v := .agg #[.int .i64 1, .int .i64 1, .int .i64 1, .int .i64 0, .int .i64 0]) rfl rfl (by rfl) (by intro x hx; have f0 := hx.load 0 0 rfl rfl; have f1 := hx.load 0 1 rfl rfl; have f2 := hx.load 0 2 rfl rfl; have f3 := hx.load 0 3 rfl rfl; have f4 := hx.load 0 4 rfl rfl; go_simp; (first | done | exact rfl)) ?_
          simp only [List.set_cons_succ, List.set_cons_zero]
          refine lin_new (i := 15) rfl rfl (by rfl) [.int .i64 (ti (frm r1)), .int .i64 2, .int .i64 (ti (frm r2)), .int .i64 0, .int .i64 0, .int .i64 1, .int .i64 1, .int .i64 1, .int .i64 0, .int .i64 0] 30 (fun k => .slice (some ⟨k, 0, none⟩) 2 2) [some (.int .i64 (ti (frm r1))), some (.int .i64 2), some (.int .i64 (ti (frm r2))), some (.int .i64 0), some (.int .i64 0), some (.int .i64 1), some (.int .i64 1), some (.int .i64 1), some (.int .i64 0), some (.int .i64 0)] (lessC_refl _) (by intro x hx; go_simp; (first | done | exact rfl)) (fun k11 => ?_)
          simp only [List.set_cons_succ, List.set_cons_zero]
          refine lin_call (i := 16) (f := 3) (args := #[.slice (some ⟨k11, 0, none⟩) 2 2]) (v := .bool true) (st_ups _ _) rfl rfl (by rfl) (fun x hx => by kernel_rfl) (by intro x hx; exact declChecks_any _ 2 2 [Dc.mk (frm r1) 2#64 (frm r2) 0#64 0#64, Dc.mk 1#64 1#64 1#64 0#64 0#64] x (arg_st hx 10 rfl [Dc.mk (frm r1) 2#64 (frm r2) 0#64 0#64, Dc.mk 1#64 1#64 1#64 0#64 0#64] (by rfl)) (by omega) (HT.out.up hx.below)) ?_
          simp only [List.set_cons_succ, List.set_cons_zero]
          refine lin_val (i := 17) (v := .bool false) rfl rfl (by rfl) (by intro x hx; go_simp; (first | done | exact rfl)) ?_
          simp only [List.set_cons_succ, List.set_cons_zero]
          refine lin_val (i := 18) (v := .bool false) rfl rfl (by rfl) (by intro x hx; go_simp; (first | done | exact rfl)) ?_
          simp only [List.set_cons_succ, List.set_cons_zero]
          refine lin_val (i := 19) (v := .bool false) rfl rfl (by rfl) (by intro x hx; go_simp; (first | done | exact rfl)) ?_
          simp only [List.set_cons_succ, List.set_cons_zero]
          refine lin_val (i := 20) (v := .agg #[.int .i64 (ti (frm r1)), .int .i64 2, .int .i64 1, .int .i64 (ti (frm r2)), .int .i64 0]) rfl rfl (by rfl) (by intro x hx; have f0 := hx.load 6 0 rfl rfl; have f1 := hx.load 6 1 rfl rfl; have f2 := hx.load 6 2 rfl rfl; have f3 := hx.load 6 3 rfl rfl; have f4 := hx.load 6 4 rfl rfl; go_simp; (first | done | exact rfl)) ?_
          simp only [List.set_cons_succ, List.set_cons_zero]
          refine lin_val (i := 21) (v := .agg #[.int .i64 1, .int .i64 1, .int .i64 1, .int .i64 0, .int .i64 0]) rfl rfl (by rfl) (by intro x hx; have f0 := hx.load 0 0 rfl rfl; have f1 := hx.load 0 1 rfl rfl; have f2 := hx.load 0 2 rfl rfl; have f3 := hx.load 0 3 rfl rfl; have f4 := hx.load 0 4 rfl rfl; go_simp; (first | done | exact rfl)) ?_
          simp only [List.set_cons_succ, List.set_cons_zero]
          refine lin_new (i := 22) rfl rfl (by rfl) [.int .i64 (ti (frm r1)), .int .i64 2, .int .i64 1, .int .i64 (ti (frm r2)), .int .i64 0, .int .i64 1, .int .i64 1, .int .i64 1, .int .i64 0, .int .i64 0] 30 (fun k => .slice (some ⟨k, 0, none⟩) 2 2) [some (.int .i64 (ti (frm r1))), some (.int .i64 2), some (.int .i64 1), some (.int .i64 (ti (frm r2))), some (.int .i64 0), some (.int .i64 1), some (.int .i64 1), some (.int .i64 1), some (.int .i64 0), some (.int .i64 0)] (lessC_refl _) (by intro x hx; go_simp; (first | done | exact rfl)) (fun k12 => ?_)
          simp only [List.set_cons_succ, List.set_cons_zero]
          refine lin_call (i := 23) (f := 3) (args := #[.slice (some ⟨k12, 0, none⟩) 2 2]) (v := .bool true) (st_ups _ _) rfl rfl (by rfl) (fun x hx => by kernel_rfl) (by intro x hx; exact declChecks_any _ 2 2 [Dc.mk (frm r1) 2#64 1#64 (frm r2) 0#64, Dc.mk 1#64 1#64 1#64 0#64 0#64] x (arg_st hx 11 rfl [Dc.mk (frm r1) 2#64 1#64 (frm r2) 0#64, Dc.mk 1#64 1#64 1#64 0#64 0#64] (by rfl)) (by omega) (HT.out.up hx.below)) ?_
          simp only [List.set_cons_succ, List.set_cons_zero]
          refine lin_val (i := 24) (v := .bool false) rfl rfl (by rfl) (by intro x hx; go_simp; (first | done | exact rfl)) ?_
          simp only [List.set_cons_succ, List.set_cons_zero]
          refine lin_val (i := 25) (v := .bool false) rfl rfl (by rfl) (by intro x hx; go_simp; (first | done | exact rfl)) ?_
          simp only [List.set_cons_succ, List.set_cons_zero]
          refine lin_val (i := 26) (v := .bool false) rfl rfl (by rfl) (by intro x hx; go_simp; (first | done | exact rfl)) ?_
          simp only [List.set_cons_succ, List.set_cons_zero]
          refine lin_val (i := 27) (v := .agg #[.int .i64 (ti (frm r1)), .int .i64 2, .int .i64 1, .int .i64 0, .int .i64 (ti (frm r2))]) rfl rfl (by rfl) (by intro x hx; have f0 := hx.load 7 0 rfl rfl; have f1 := hx.load 7 1 rfl rfl; have f2 := hx.load 7 2 rfl rfl; have f3 := hx.load 7 3 rfl rfl; have f4 := hx.load 7 4 rfl rfl; go_simp; (first | done | exact rfl)) ?_
          simp only [List.set_cons_succ, List.set_cons_zero]
          refine lin_val (i := 28) (v := .agg #[.int .i64 1, .int .i64 1, .int .i64 1, .int .i64 0, .int .i64 0]) rfl rfl (by rfl) (by intro x hx; have f0 := hx.load 0 0 rfl rfl; have f1 := hx.load 0 1 rfl rfl; have f2 := hx.load 0 2 rfl rfl; have f3 := hx.load 0 3 rfl rfl; have f4 := hx.load 0 4 rfl rfl; go_simp; (first | done | exact rfl)) ?_
          simp only [List.set_cons_succ, List.set_cons_zero]
          refine lin_new (i := 29) rfl rfl (by rfl) [.int .i64 (ti (frm r1)), .int .i64 2, .int .i64 1, .int .i64 0, .int .i64 (ti (frm r2)), .int .i64 1, .int .i64 1, .int .i64 1, .int .i64 0, .int .i64 0] 30 (fun k => .slice (some ⟨k, 0, none⟩) 2 2) [some (.int .i64 (ti (frm r1))), some (.int .i64 2), some (.int .i64 1), some (.int .i64 0), some (.int .i64 (ti (frm r2))), some (.int .i64 1), some (.int .i64 1), some (.int .i64 1), some (.int .i64 0), some (.int .i64 0)] (lessC_refl _) (by intro x hx; go_simp; (first | done | exact rfl)) (fun k13 => ?_)
          simp only [List.set_cons_succ, List.set_cons_zero]
          refine lin_call (i := 30) (f := 3) (args := #[.slice (some ⟨k13, 0, none⟩) 2 2]) (v := .bool true) (st_ups _ _) rfl rfl (by rfl) (fun x hx => by kernel_rfl) (by intro x hx; exact declChecks_any _ 2 2 [Dc.mk (frm r1) 2#64 1#64 0#64 (frm r2), Dc.mk 1#64 1#64 1#64 0#64 0#64] x (arg_st hx 12 rfl [Dc.mk (frm r1) 2#64 1#64 0#64 (frm r2), Dc.mk 1#64 1#64 1#64 0#64 0#64] (by rfl)) (by omega) (HT.out.up hx.below)) ?_
          simp only [List.set_cons_succ, List.set_cons_zero]
          refine lin_val (i := 31) (v := .bool false) rfl rfl (by rfl) (by intro x hx; go_simp; (first | done | exact rfl)) ?_
          simp only [List.set_cons_succ, List.set_cons_zero]
          refine lin_val (i := 32) (v := .bool false) rfl rfl (by rfl) (by intro x hx; go_simp; (first | done | exact rfl)) ?_
          simp only [List.set_cons_succ, List.set_cons_zero]
          refine lin_val (i := 33) (v := .bool false) rfl rfl (by rfl) (by intro x hx; go_simp; (first | done | exact rfl)) ?_
          simp only [List.set_cons_succ, List.set_cons_zero]
          refine lin_val (i := 34) (v := .agg #[.int .i64 (ti (frm r1)), .int .i64 2, .int .i64 1, .int .i64 0, .int .i64 0]) rfl rfl (by rfl) (by intro x hx; have f0 := hx.load 1 0 rfl rfl; have f1 := hx.load 1 1 rfl rfl; have f2 := hx.load 1 2 rfl rfl; have f3 := hx.load 1 3 rfl rfl; have f4 := hx.load 1 4 rfl rfl; go_simp; (first | done | exact rfl)) ?_
          simp only [List.set_cons_succ, List.set_cons_zero]
          refine lin_val (i := 35) (v := .agg #[.int .i64 (ti (frm r1)), .int .i64 2, .int .i64 1, .int .i64 0, .int .i64 (ti (frm r2))]) rfl rfl (by rfl) (by intro x hx; have f0 := hx.load 7 0 rfl rfl; have f1 := hx.load 7 1 rfl rfl; have f2 := hx.load 7 2 rfl rfl; have f3 := hx.load 7 3 rfl rfl; have f4 := hx.load 7 4 rfl rfl; go_simp; (first | done | exact rfl)) ?_
          simp only [List.set_cons_succ, List.set_cons_zero]
          refine lin_val (i := 36) (v := .int .i64 (ti (frm r2))) rfl rfl (by rfl) (by intro x hx; go_simp; (first | done | exact rfl)) ?_
          simp only [List.set_cons_succ, List.set_cons_zero]
          refine lin_val (i := 37) (v := .int .u64 (tn (frm r2))) rfl rfl (by rfl) (by intro x hx; go_simp; (first | done | exact backI (frm r2) | exact congrArg _ (backI (frm r2)) | (rw [backI (frm r2)]; done) | (rw [backI (frm r2)]; rfl))) ?_
          simp only [List.set_cons_succ, List.set_cons_zero]
          refine lin_val (i := 38) (v := .int .i64 (ti (frm r2))) rfl rfl (by rfl) (by intro x hx; go_simp; (first | done | exact rfl)) ?_
          simp only [List.set_cons_succ, List.set_cons_zero]
          refine lin_call (i := 39) (f := 4) (args := #[.agg #[.int .i64 (ti (frm r1)), .int .i64 (ti (2#64)), .int .i64 (ti (1#64)), .int .i64 (ti (0#64)), .int .i64 (ti (0#64))], .agg #[.int .i64 (ti (frm r1)), .int .i64 (ti (2#64)), .int .i64 (ti (1#64)), .int .i64 (ti (0#64)), .int .i64 (ti (frm r2))], .int .u64 (tn (frm r2)), .int .u64 (tn (5#64)), .int .i64 (ti (frm r2))]) (v := .bool true) (st_ups _ _) rfl rfl (by rfl) (fun x hx => by kernel_rfl) (by intro x hx; exact declTells (Dc.mk (frm r1) 2#64 1#64 0#64 0#64) (Dc.mk (frm r1) 2#64 1#64 0#64 (frm r2)) (frm r2) 5#64 (frm r2) _ (HT.out.up hx.below)) ?_
          simp only [List.set_cons_succ, List.set_cons_zero]
          refine lin_val (i := 40) (v := .bool false) rfl rfl (by rfl) (by intro x hx; go_simp; (first | done | exact rfl)) ?_
          simp only [List.set_cons_succ, List.set_cons_zero]
          refine lin_val (i := 41) (v := .bool false) rfl rfl (by rfl) (by intro x hx; go_simp; (first | done | exact rfl)) ?_
          simp only [List.set_cons_succ, List.set_cons_zero]
          refine lin_done ?_
          intro W17 hx
          replace HS := hid hx
          clear hx
          -- region 7
          go_upto_region 7 with fail
          refine lin_begin (St w [⟨k1, [some (.int .i64 1), some (.int .i64 1), some (.int .i64 1), some (.int .i64 0), some (.int .i64 0)], 30⟩, ⟨k2, [some (.int .i64 (ti (frm r1))), some (.int .i64 2), some (.int .i64 1), some (.int .i64 0), some (.int .i64 0)], 30⟩, ⟨k3, [some (.int .i64 (ti (frm r1))), some (.int .i64 2), some (.int .i64 1), some (.int .i64 0), some (.int .i64 0)], 30⟩, ⟨k4, [some (.int .i64 (ti (frm r1))), some (.int .i64 2), some (.int .i64 1), some (.int .i64 0), some (.int .i64 0), some (.int .i64 1), some (.int .i64 1), some (.int .i64 1), some (.int .i64 0), some (.int .i64 0)], 30⟩, ⟨k5, [some (.int .i64 (ti (frm r1))), some (.int .i64 (ti (frm r2))), some (.int .i64 1), some (.int .i64 0), some (.int .i64 0)], 30⟩, ⟨k6, [some (.int .i64 (ti (frm r1))), some (.int .i64 2), some (.int .i64 (ti (frm r2))), some (.int .i64 0), some (.int .i64 0)], 30⟩, ⟨k7, [some (.int .i64 (ti (frm r1))), some (.int .i64 2), some (.int .i64 1), some (.int .i64 (ti (frm r2))), some (.int .i64 0)], 30⟩, ⟨k8, [some (.int .i64 (ti (frm r1))), some (.int .i64 2), some (.int .i64 1), some (.int .i64 0), some (.int .i64 (ti (frm r2)))], 30⟩, ⟨k9, [some (.int .i64 (ti (frm r1))), some (.int .i64 2), some (.int .i64 1), some (.int .i64 0), some (.int .i64 0), some (.int .i64 1), some (.int .i64 1), some (.int .i64 1), some (.int .i64 0), some (.int .i64 0)], 30⟩, ⟨k10, [some (.int .i64 (ti (frm r1))), some (.int .i64 (ti (frm r2))), some (.int .i64 1), some (.int .i64 0), some (.int .i64 0), some (.int .i64 1), some (.int .i64 1), some (.int .i64 1), some (.int .i64 0), some (.int .i64 0)], 30⟩, ⟨k11, [some (.int .i64 (ti (frm r1))), some (.int .i64 2), some (.int .i64 (ti (frm r2))), some (.int .i64 0), some (.int .i64 0), some (.int .i64 1), some (.int .i64 1), some (.int .i64 1), some (.int .i64 0), some (.int .i64 0)], 30⟩, ⟨k12, [some (.int .i64 (ti (frm r1))), some (.int .i64 2), some (.int .i64 1), some (.int .i64 (ti (frm r2))), some (.int .i64 0), some (.int .i64 1), some (.int .i64 1), some (.int .i64 1), some (.int .i64 0), some (.int .i64 0)], 30⟩, ⟨k13, [some (.int .i64 (ti (frm r1))), some (.int .i64 2), some (.int .i64 1), some (.int .i64 0), some (.int .i64 (ti (frm r2))), some (.int .i64 1), some (.int .i64 1), some (.int .i64 1), some (.int .i64 0), some (.int .i64 0)], 30⟩]) rfl HS.out ?_
          refine lin_val (i := 0) (v := .int .i64 (ti (frm r2))) rfl rfl (by rfl) (by intro x hx; go_simp; (first | done | exact rfl)) ?_
          simp only [List.set_cons_succ, List.set_cons_zero]
          refine lin_val (i := 1) (v := .int .i64 (ti ((frm r2) + 1#64))) rfl rfl (by rfl) (by intro x hx; exact (show _ = Result.ok (Next.value (.int .i64 (IntKind.i64.wrap ((ti (frm r2) : Int) + (1))))) x by kernel_rfl).trans (by rw [show (1 : Int) = ti 1#64 from by decide, addIT (frm r2) 1#64])) ?_
          simp only [List.set_cons_succ, List.set_cons_zero]
          refine lin_val (i := 2) (v := .int .i64 (ti ((frm r2) + 1#64))) rfl rfl (by rfl) (by intro x hx; go_simp; (first | done | exact rfl)) ?_
          simp only [List.set_cons_succ, List.set_cons_zero]
          refine lin_done ?_
          intro W18 hx
          replace HS := hid hx
          clear hx
          go_wp2
          rw [frm_next r2]
          exact ⟨hlt2, hid ⟨_, _, _, _, _, _, _, _, _, _, _, _, _, _, _, _, _, _, _, _, _, _, _, _, _, _, _, _, _, _, _, _, _, _, _, _, _, _, _, _, _, _, _, _, _, _, _, _, _, _, _, _, _, _, _, _, _, _, _, _, _, _, _, _, _, _, _, _, _, _, _, _, _, _, _, _, _, rfl, (HS.out.cut 1)⟩⟩
        · replace h2 := hid h2
          -- region 12
          go_upto_region 12 with fail
          refine lin_begin (St w [⟨k1, [some (.int .i64 1), some (.int .i64 1), some (.int .i64 1), some (.int .i64 0), some (.int .i64 0)], 30⟩, ⟨k2, [some (.int .i64 (ti (frm r1))), some (.int .i64 2), some (.int .i64 1), some (.int .i64 0), some (.int .i64 0)], 30⟩, ⟨k3, [some (.int .i64 (ti (frm r1))), some (.int .i64 2), some (.int .i64 1), some (.int .i64 0), some (.int .i64 0)], 30⟩, ⟨k4, [some (.int .i64 (ti (frm r1))), some (.int .i64 2), some (.int .i64 1), some (.int .i64 0), some (.int .i64 0), some (.int .i64 1), some (.int .i64 1), some (.int .i64 1), some (.int .i64 0), some (.int .i64 0)], 30⟩]) rfl HS.out ?_
          refine lin_val (i := 0) (v := .pointer (some ⟨k2, 4, none⟩)) rfl rfl (by rfl) (by intro x hx; go_simp; (first | done | exact rfl)) ?_
          simp only [List.set_cons_succ, List.set_cons_zero]
          refine lin_store (i := 1) (St w [⟨k1, [some (.int .i64 1), some (.int .i64 1), some (.int .i64 1), some (.int .i64 0), some (.int .i64 0)], 30⟩, ⟨k2, [some (.int .i64 (ti (frm r1))), some (.int .i64 2), some (.int .i64 1), some (.int .i64 0), some (.int .i64 2)], 30⟩, ⟨k3, [some (.int .i64 (ti (frm r1))), some (.int .i64 2), some (.int .i64 1), some (.int .i64 0), some (.int .i64 0)], 30⟩, ⟨k4, [some (.int .i64 (ti (frm r1))), some (.int .i64 2), some (.int .i64 1), some (.int .i64 0), some (.int .i64 0), some (.int .i64 1), some (.int .i64 1), some (.int .i64 1), some (.int .i64 0), some (.int .i64 0)], 30⟩]) rfl rfl (by rfl) (fun x => (x.setCell ⟨k2, 4, none⟩ (.int .i64 2))) (by intro x hx; obtain ⟨u0, z0⟩ := hx.has 1 4 rfl (by simp); have q0 := hx.soft 1 4 rfl; go_simp; (first | done | rfl)) (fun x hx => (hx.put 1 4 (.int .i64 2) rfl)) ?_
          refine lin_done ?_
          intro W9 hx
          replace HS := hid hx
          clear hx
          -- region 13
          go_upto_region 13 with fail
          refine lin_begin (St w [⟨k1, [some (.int .i64 1), some (.int .i64 1), some (.int .i64 1), some (.int .i64 0), some (.int .i64 0)], 30⟩, ⟨k2, [some (.int .i64 (ti (frm r1))), some (.int .i64 2), some (.int .i64 1), some (.int .i64 0), some (.int .i64 2)], 30⟩, ⟨k3, [some (.int .i64 (ti (frm r1))), some (.int .i64 2), some (.int .i64 1), some (.int .i64 0), some (.int .i64 0)], 30⟩, ⟨k4, [some (.int .i64 (ti (frm r1))), some (.int .i64 2), some (.int .i64 1), some (.int .i64 0), some (.int .i64 0), some (.int .i64 1), some (.int .i64 1), some (.int .i64 1), some (.int .i64 0), some (.int .i64 0)], 30⟩]) rfl HS.out ?_
          refine lin_val (i := 0) (v := .agg #[.int .i64 (ti (frm r1)), .int .i64 2, .int .i64 1, .int .i64 0, .int .i64 2]) rfl rfl (by rfl) (by intro x hx; have f0 := hx.load 1 0 rfl rfl; have f1 := hx.load 1 1 rfl rfl; have f2 := hx.load 1 2 rfl rfl; have f3 := hx.load 1 3 rfl rfl; have f4 := hx.load 1 4 rfl rfl; go_simp; (first | done | exact rfl)) ?_
          simp only [List.set_cons_succ, List.set_cons_zero]
          refine lin_new (i := 1) rfl rfl (by rfl) [.int .i64 0, .int .i64 0, .int .i64 0, .int .i64 0, .int .i64 0] 30 (fun k => .pointer (some ⟨k, 0, none⟩)) [some (.int .i64 0), some (.int .i64 0), some (.int .i64 0), some (.int .i64 0), some (.int .i64 0)] (lessC_refl _) (by intro x hx; go_simp; (first | done | exact rfl)) (fun k5 => ?_)
          simp only [List.set_cons_succ, List.set_cons_zero]
          refine lin_store (i := 2) (St w [⟨k1, [some (.int .i64 1), some (.int .i64 1), some (.int .i64 1), some (.int .i64 0), some (.int .i64 0)], 30⟩, ⟨k2, [some (.int .i64 (ti (frm r1))), some (.int .i64 2), some (.int .i64 1), some (.int .i64 0), some (.int .i64 2)], 30⟩, ⟨k3, [some (.int .i64 (ti (frm r1))), some (.int .i64 2), some (.int .i64 1), some (.int .i64 0), some (.int .i64 0)], 30⟩, ⟨k4, [some (.int .i64 (ti (frm r1))), some (.int .i64 2), some (.int .i64 1), some (.int .i64 0), some (.int .i64 0), some (.int .i64 1), some (.int .i64 1), some (.int .i64 1), some (.int .i64 0), some (.int .i64 0)], 30⟩, ⟨k5, [some (.int .i64 (ti (frm r1))), some (.int .i64 2), some (.int .i64 1), some (.int .i64 0), some (.int .i64 2)], 30⟩]) rfl rfl (by rfl) (fun x => (((((x.setCell ⟨k5, 0, none⟩ (.int .i64 (ti (frm r1)))).setCell ⟨k5, 1, none⟩ (.int .i64 2)).setCell ⟨k5, 2, none⟩ (.int .i64 1)).setCell ⟨k5, 3, none⟩ (.int .i64 0)).setCell ⟨k5, 4, none⟩ (.int .i64 2))) (by intro x hx; obtain ⟨u0, z0⟩ := hx.has 4 0 rfl (by simp); have q0 := hx.soft 4 0 rfl; obtain ⟨u1, z1⟩ := hx.has 4 1 rfl (by simp); have q1 := hx.soft 4 1 rfl; obtain ⟨u2, z2⟩ := hx.has 4 2 rfl (by simp); have q2 := hx.soft 4 2 rfl; obtain ⟨u3, z3⟩ := hx.has 4 3 rfl (by simp); have q3 := hx.soft 4 3 rfl; obtain ⟨u4, z4⟩ := hx.has 4 4 rfl (by simp); have q4 := hx.soft 4 4 rfl; go_simp; (first | done | rfl)) (fun x hx => (((((hx.put 4 0 (.int .i64 (ti (frm r1))) rfl).put 4 1 (.int .i64 2) rfl).put 4 2 (.int .i64 1) rfl).put 4 3 (.int .i64 0) rfl).put 4 4 (.int .i64 2) rfl)) ?_
          refine lin_done ?_
          intro W10 hx
          replace HS := hid hx
          clear hx
          -- region 14
          go_upto_region 14 with fail
          refine lin_begin (St w [⟨k1, [some (.int .i64 1), some (.int .i64 1), some (.int .i64 1), some (.int .i64 0), some (.int .i64 0)], 30⟩, ⟨k2, [some (.int .i64 (ti (frm r1))), some (.int .i64 2), some (.int .i64 1), some (.int .i64 0), some (.int .i64 2)], 30⟩, ⟨k3, [some (.int .i64 (ti (frm r1))), some (.int .i64 2), some (.int .i64 1), some (.int .i64 0), some (.int .i64 0)], 30⟩, ⟨k4, [some (.int .i64 (ti (frm r1))), some (.int .i64 2), some (.int .i64 1), some (.int .i64 0), some (.int .i64 0), some (.int .i64 1), some (.int .i64 1), some (.int .i64 1), some (.int .i64 0), some (.int .i64 0)], 30⟩, ⟨k5, [some (.int .i64 (ti (frm r1))), some (.int .i64 2), some (.int .i64 1), some (.int .i64 0), some (.int .i64 2)], 30⟩]) rfl HS.out ?_
          refine lin_val (i := 0) (v := .int .i64 (ti (frm r2))) rfl rfl (by rfl) (by intro x hx; go_simp; (first | done | exact rfl)) ?_
          simp only [List.set_cons_succ, List.set_cons_zero]
          refine lin_val (i := 1) (v := .pointer (some ⟨k5, 1, none⟩)) rfl rfl (by rfl) (by intro x hx; go_simp; (first | done | exact rfl)) ?_
          simp only [List.set_cons_succ, List.set_cons_zero]
          refine lin_store (i := 2) (St w [⟨k1, [some (.int .i64 1), some (.int .i64 1), some (.int .i64 1), some (.int .i64 0), some (.int .i64 0)], 30⟩, ⟨k2, [some (.int .i64 (ti (frm r1))), some (.int .i64 2), some (.int .i64 1), some (.int .i64 0), some (.int .i64 2)], 30⟩, ⟨k3, [some (.int .i64 (ti (frm r1))), some (.int .i64 2), some (.int .i64 1), some (.int .i64 0), some (.int .i64 0)], 30⟩, ⟨k4, [some (.int .i64 (ti (frm r1))), some (.int .i64 2), some (.int .i64 1), some (.int .i64 0), some (.int .i64 0), some (.int .i64 1), some (.int .i64 1), some (.int .i64 1), some (.int .i64 0), some (.int .i64 0)], 30⟩, ⟨k5, [some (.int .i64 (ti (frm r1))), some (.int .i64 (ti (frm r2))), some (.int .i64 1), some (.int .i64 0), some (.int .i64 2)], 30⟩]) rfl rfl (by rfl) (fun x => (x.setCell ⟨k5, 1, none⟩ (.int .i64 (ti (frm r2))))) (by intro x hx; obtain ⟨u0, z0⟩ := hx.has 4 1 rfl (by simp); have q0 := hx.soft 4 1 rfl; go_simp; (first | done | rfl)) (fun x hx => (hx.put 4 1 (.int .i64 (ti (frm r2))) rfl)) ?_
          refine lin_done ?_
          intro W11 hx
          replace HS := hid hx
          clear hx
          -- region 15
          go_upto_region 15 with fail
          refine lin_begin (St w [⟨k1, [some (.int .i64 1), some (.int .i64 1), some (.int .i64 1), some (.int .i64 0), some (.int .i64 0)], 30⟩, ⟨k2, [some (.int .i64 (ti (frm r1))), some (.int .i64 2), some (.int .i64 1), some (.int .i64 0), some (.int .i64 2)], 30⟩, ⟨k3, [some (.int .i64 (ti (frm r1))), some (.int .i64 2), some (.int .i64 1), some (.int .i64 0), some (.int .i64 0)], 30⟩, ⟨k4, [some (.int .i64 (ti (frm r1))), some (.int .i64 2), some (.int .i64 1), some (.int .i64 0), some (.int .i64 0), some (.int .i64 1), some (.int .i64 1), some (.int .i64 1), some (.int .i64 0), some (.int .i64 0)], 30⟩, ⟨k5, [some (.int .i64 (ti (frm r1))), some (.int .i64 (ti (frm r2))), some (.int .i64 1), some (.int .i64 0), some (.int .i64 2)], 30⟩]) rfl HS.out ?_
          refine lin_val (i := 0) (v := .agg #[.int .i64 (ti (frm r1)), .int .i64 2, .int .i64 1, .int .i64 0, .int .i64 2]) rfl rfl (by rfl) (by intro x hx; have f0 := hx.load 1 0 rfl rfl; have f1 := hx.load 1 1 rfl rfl; have f2 := hx.load 1 2 rfl rfl; have f3 := hx.load 1 3 rfl rfl; have f4 := hx.load 1 4 rfl rfl; go_simp; (first | done | exact rfl)) ?_
          simp only [List.set_cons_succ, List.set_cons_zero]
          refine lin_new (i := 1) rfl rfl (by rfl) [.int .i64 0, .int .i64 0, .int .i64 0, .int .i64 0, .int .i64 0] 30 (fun k => .pointer (some ⟨k, 0, none⟩)) [some (.int .i64 0), some (.int .i64 0), some (.int .i64 0), some (.int .i64 0), some (.int .i64 0)] (lessC_refl _) (by intro x hx; go_simp; (first | done | exact rfl)) (fun k6 => ?_)
          simp only [List.set_cons_succ, List.set_cons_zero]
          refine lin_store (i := 2) (St w [⟨k1, [some (.int .i64 1), some (.int .i64 1), some (.int .i64 1), some (.int .i64 0), some (.int .i64 0)], 30⟩, ⟨k2, [some (.int .i64 (ti (frm r1))), some (.int .i64 2), some (.int .i64 1), some (.int .i64 0), some (.int .i64 2)], 30⟩, ⟨k3, [some (.int .i64 (ti (frm r1))), some (.int .i64 2), some (.int .i64 1), some (.int .i64 0), some (.int .i64 0)], 30⟩, ⟨k4, [some (.int .i64 (ti (frm r1))), some (.int .i64 2), some (.int .i64 1), some (.int .i64 0), some (.int .i64 0), some (.int .i64 1), some (.int .i64 1), some (.int .i64 1), some (.int .i64 0), some (.int .i64 0)], 30⟩, ⟨k5, [some (.int .i64 (ti (frm r1))), some (.int .i64 (ti (frm r2))), some (.int .i64 1), some (.int .i64 0), some (.int .i64 2)], 30⟩, ⟨k6, [some (.int .i64 (ti (frm r1))), some (.int .i64 2), some (.int .i64 1), some (.int .i64 0), some (.int .i64 2)], 30⟩]) rfl rfl (by rfl) (fun x => (((((x.setCell ⟨k6, 0, none⟩ (.int .i64 (ti (frm r1)))).setCell ⟨k6, 1, none⟩ (.int .i64 2)).setCell ⟨k6, 2, none⟩ (.int .i64 1)).setCell ⟨k6, 3, none⟩ (.int .i64 0)).setCell ⟨k6, 4, none⟩ (.int .i64 2))) (by intro x hx; obtain ⟨u0, z0⟩ := hx.has 5 0 rfl (by simp); have q0 := hx.soft 5 0 rfl; obtain ⟨u1, z1⟩ := hx.has 5 1 rfl (by simp); have q1 := hx.soft 5 1 rfl; obtain ⟨u2, z2⟩ := hx.has 5 2 rfl (by simp); have q2 := hx.soft 5 2 rfl; obtain ⟨u3, z3⟩ := hx.has 5 3 rfl (by simp); have q3 := hx.soft 5 3 rfl; obtain ⟨u4, z4⟩ := hx.has 5 4 rfl (by simp); have q4 := hx.soft 5 4 rfl; go_simp; (first | done | rfl)) (fun x hx => (((((hx.put 5 0 (.int .i64 (ti (frm r1))) rfl).put 5 1 (.int .i64 2) rfl).put 5 2 (.int .i64 1) rfl).put 5 3 (.int .i64 0) rfl).put 5 4 (.int .i64 2) rfl)) ?_
          refine lin_done ?_
          intro W12 hx
          replace HS := hid hx
          clear hx
          -- region 16
          go_upto_region 16 with fail
          refine lin_begin (St w [⟨k1, [some (.int .i64 1), some (.int .i64 1), some (.int .i64 1), some (.int .i64 0), some (.int .i64 0)], 30⟩, ⟨k2, [some (.int .i64 (ti (frm r1))), some (.int .i64 2), some (.int .i64 1), some (.int .i64 0), some (.int .i64 2)], 30⟩, ⟨k3, [some (.int .i64 (ti (frm r1))), some (.int .i64 2), some (.int .i64 1), some (.int .i64 0), some (.int .i64 0)], 30⟩, ⟨k4, [some (.int .i64 (ti (frm r1))), some (.int .i64 2), some (.int .i64 1), some (.int .i64 0), some (.int .i64 0), some (.int .i64 1), some (.int .i64 1), some (.int .i64 1), some (.int .i64 0), some (.int .i64 0)], 30⟩, ⟨k5, [some (.int .i64 (ti (frm r1))), some (.int .i64 (ti (frm r2))), some (.int .i64 1), some (.int .i64 0), some (.int .i64 2)], 30⟩, ⟨k6, [some (.int .i64 (ti (frm r1))), some (.int .i64 2), some (.int .i64 1), some (.int .i64 0), some (.int .i64 2)], 30⟩]) rfl HS.out ?_
          refine lin_val (i := 0) (v := .int .i64 (ti (frm r2))) rfl rfl (by rfl) (by intro x hx; go_simp; (first | done | exact rfl)) ?_
          simp only [List.set_cons_succ, List.set_cons_zero]
          refine lin_val (i := 1) (v := .pointer (some ⟨k6, 2, none⟩)) rfl rfl (by rfl) (by intro x hx; go_simp; (first | done | exact rfl)) ?_
          simp only [List.set_cons_succ, List.set_cons_zero]
          refine lin_store (i := 2) (St w [⟨k1, [some (.int .i64 1), some (.int .i64 1), some (.int .i64 1), some (.int .i64 0), some (.int .i64 0)], 30⟩, ⟨k2, [some (.int .i64 (ti (frm r1))), some (.int .i64 2), some (.int .i64 1), some (.int .i64 0), some (.int .i64 2)], 30⟩, ⟨k3, [some (.int .i64 (ti (frm r1))), some (.int .i64 2), some (.int .i64 1), some (.int .i64 0), some (.int .i64 0)], 30⟩, ⟨k4, [some (.int .i64 (ti (frm r1))), some (.int .i64 2), some (.int .i64 1), some (.int .i64 0), some (.int .i64 0), some (.int .i64 1), some (.int .i64 1), some (.int .i64 1), some (.int .i64 0), some (.int .i64 0)], 30⟩, ⟨k5, [some (.int .i64 (ti (frm r1))), some (.int .i64 (ti (frm r2))), some (.int .i64 1), some (.int .i64 0), some (.int .i64 2)], 30⟩, ⟨k6, [some (.int .i64 (ti (frm r1))), some (.int .i64 2), some (.int .i64 (ti (frm r2))), some (.int .i64 0), some (.int .i64 2)], 30⟩]) rfl rfl (by rfl) (fun x => (x.setCell ⟨k6, 2, none⟩ (.int .i64 (ti (frm r2))))) (by intro x hx; obtain ⟨u0, z0⟩ := hx.has 5 2 rfl (by simp); have q0 := hx.soft 5 2 rfl; go_simp; (first | done | rfl)) (fun x hx => (hx.put 5 2 (.int .i64 (ti (frm r2))) rfl)) ?_
          refine lin_done ?_
          intro W13 hx
          replace HS := hid hx
          clear hx
          -- region 17
          go_upto_region 17 with fail
          refine lin_begin (St w [⟨k1, [some (.int .i64 1), some (.int .i64 1), some (.int .i64 1), some (.int .i64 0), some (.int .i64 0)], 30⟩, ⟨k2, [some (.int .i64 (ti (frm r1))), some (.int .i64 2), some (.int .i64 1), some (.int .i64 0), some (.int .i64 2)], 30⟩, ⟨k3, [some (.int .i64 (ti (frm r1))), some (.int .i64 2), some (.int .i64 1), some (.int .i64 0), some (.int .i64 0)], 30⟩, ⟨k4, [some (.int .i64 (ti (frm r1))), some (.int .i64 2), some (.int .i64 1), some (.int .i64 0), some (.int .i64 0), some (.int .i64 1), some (.int .i64 1), some (.int .i64 1), some (.int .i64 0), some (.int .i64 0)], 30⟩, ⟨k5, [some (.int .i64 (ti (frm r1))), some (.int .i64 (ti (frm r2))), some (.int .i64 1), some (.int .i64 0), some (.int .i64 2)], 30⟩, ⟨k6, [some (.int .i64 (ti (frm r1))), some (.int .i64 2), some (.int .i64 (ti (frm r2))), some (.int .i64 0), some (.int .i64 2)], 30⟩]) rfl HS.out ?_
          refine lin_val (i := 0) (v := .agg #[.int .i64 (ti (frm r1)), .int .i64 2, .int .i64 1, .int .i64 0, .int .i64 2]) rfl rfl (by rfl) (by intro x hx; have f0 := hx.load 1 0 rfl rfl; have f1 := hx.load 1 1 rfl rfl; have f2 := hx.load 1 2 rfl rfl; have f3 := hx.load 1 3 rfl rfl; have f4 := hx.load 1 4 rfl rfl; go_simp; (first | done | exact rfl)) ?_
          simp only [List.set_cons_succ, List.set_cons_zero]
          refine lin_new (i := 1) rfl rfl (by rfl) [.int .i64 0, .int .i64 0, .int .i64 0, .int .i64 0, .int .i64 0] 30 (fun k => .pointer (some ⟨k, 0, none⟩)) [some (.int .i64 0), some (.int .i64 0), some (.int .i64 0), some (.int .i64 0), some (.int .i64 0)] (lessC_refl _) (by intro x hx; go_simp; (first | done | exact rfl)) (fun k7 => ?_)
          simp only [List.set_cons_succ, List.set_cons_zero]
          refine lin_store (i := 2) (St w [⟨k1, [some (.int .i64 1), some (.int .i64 1), some (.int .i64 1), some (.int .i64 0), some (.int .i64 0)], 30⟩, ⟨k2, [some (.int .i64 (ti (frm r1))), some (.int .i64 2), some (.int .i64 1), some (.int .i64 0), some (.int .i64 2)], 30⟩, ⟨k3, [some (.int .i64 (ti (frm r1))), some (.int .i64 2), some (.int .i64 1), some (.int .i64 0), some (.int .i64 0)], 30⟩, ⟨k4, [some (.int .i64 (ti (frm r1))), some (.int .i64 2), some (.int .i64 1), some (.int .i64 0), some (.int .i64 0), some (.int .i64 1), some (.int .i64 1), some (.int .i64 1), some (.int .i64 0), some (.int .i64 0)], 30⟩, ⟨k5, [some (.int .i64 (ti (frm r1))), some (.int .i64 (ti (frm r2))), some (.int .i64 1), some (.int .i64 0), some (.int .i64 2)], 30⟩, ⟨k6, [some (.int .i64 (ti (frm r1))), some (.int .i64 2), some (.int .i64 (ti (frm r2))), some (.int .i64 0), some (.int .i64 2)], 30⟩, ⟨k7, [some (.int .i64 (ti (frm r1))), some (.int .i64 2), some (.int .i64 1), some (.int .i64 0), some (.int .i64 2)], 30⟩]) rfl rfl (by rfl) (fun x => (((((x.setCell ⟨k7, 0, none⟩ (.int .i64 (ti (frm r1)))).setCell ⟨k7, 1, none⟩ (.int .i64 2)).setCell ⟨k7, 2, none⟩ (.int .i64 1)).setCell ⟨k7, 3, none⟩ (.int .i64 0)).setCell ⟨k7, 4, none⟩ (.int .i64 2))) (by intro x hx; obtain ⟨u0, z0⟩ := hx.has 6 0 rfl (by simp); have q0 := hx.soft 6 0 rfl; obtain ⟨u1, z1⟩ := hx.has 6 1 rfl (by simp); have q1 := hx.soft 6 1 rfl; obtain ⟨u2, z2⟩ := hx.has 6 2 rfl (by simp); have q2 := hx.soft 6 2 rfl; obtain ⟨u3, z3⟩ := hx.has 6 3 rfl (by simp); have q3 := hx.soft 6 3 rfl; obtain ⟨u4, z4⟩ := hx.has 6 4 rfl (by simp); have q4 := hx.soft 6 4 rfl; go_simp; (first | done | rfl)) (fun x hx => (((((hx.put 6 0 (.int .i64 (ti (frm r1))) rfl).put 6 1 (.int .i64 2) rfl).put 6 2 (.int .i64 1) rfl).put 6 3 (.int .i64 0) rfl).put 6 4 (.int .i64 2) rfl)) ?_
          refine lin_done ?_
          intro W14 hx
          replace HS := hid hx
          clear hx
          -- region 18
          go_upto_region 18 with fail
          refine lin_begin (St w [⟨k1, [some (.int .i64 1), some (.int .i64 1), some (.int .i64 1), some (.int .i64 0), some (.int .i64 0)], 30⟩, ⟨k2, [some (.int .i64 (ti (frm r1))), some (.int .i64 2), some (.int .i64 1), some (.int .i64 0), some (.int .i64 2)], 30⟩, ⟨k3, [some (.int .i64 (ti (frm r1))), some (.int .i64 2), some (.int .i64 1), some (.int .i64 0), some (.int .i64 0)], 30⟩, ⟨k4, [some (.int .i64 (ti (frm r1))), some (.int .i64 2), some (.int .i64 1), some (.int .i64 0), some (.int .i64 0), some (.int .i64 1), some (.int .i64 1), some (.int .i64 1), some (.int .i64 0), some (.int .i64 0)], 30⟩, ⟨k5, [some (.int .i64 (ti (frm r1))), some (.int .i64 (ti (frm r2))), some (.int .i64 1), some (.int .i64 0), some (.int .i64 2)], 30⟩, ⟨k6, [some (.int .i64 (ti (frm r1))), some (.int .i64 2), some (.int .i64 (ti (frm r2))), some (.int .i64 0), some (.int .i64 2)], 30⟩, ⟨k7, [some (.int .i64 (ti (frm r1))), some (.int .i64 2), some (.int .i64 1), some (.int .i64 0), some (.int .i64 2)], 30⟩]) rfl HS.out ?_
          refine lin_val (i := 0) (v := .int .i64 (ti (frm r2))) rfl rfl (by rfl) (by intro x hx; go_simp; (first | done | exact rfl)) ?_
          simp only [List.set_cons_succ, List.set_cons_zero]
          refine lin_val (i := 1) (v := .pointer (some ⟨k7, 3, none⟩)) rfl rfl (by rfl) (by intro x hx; go_simp; (first | done | exact rfl)) ?_
          simp only [List.set_cons_succ, List.set_cons_zero]
          refine lin_store (i := 2) (St w [⟨k1, [some (.int .i64 1), some (.int .i64 1), some (.int .i64 1), some (.int .i64 0), some (.int .i64 0)], 30⟩, ⟨k2, [some (.int .i64 (ti (frm r1))), some (.int .i64 2), some (.int .i64 1), some (.int .i64 0), some (.int .i64 2)], 30⟩, ⟨k3, [some (.int .i64 (ti (frm r1))), some (.int .i64 2), some (.int .i64 1), some (.int .i64 0), some (.int .i64 0)], 30⟩, ⟨k4, [some (.int .i64 (ti (frm r1))), some (.int .i64 2), some (.int .i64 1), some (.int .i64 0), some (.int .i64 0), some (.int .i64 1), some (.int .i64 1), some (.int .i64 1), some (.int .i64 0), some (.int .i64 0)], 30⟩, ⟨k5, [some (.int .i64 (ti (frm r1))), some (.int .i64 (ti (frm r2))), some (.int .i64 1), some (.int .i64 0), some (.int .i64 2)], 30⟩, ⟨k6, [some (.int .i64 (ti (frm r1))), some (.int .i64 2), some (.int .i64 (ti (frm r2))), some (.int .i64 0), some (.int .i64 2)], 30⟩, ⟨k7, [some (.int .i64 (ti (frm r1))), some (.int .i64 2), some (.int .i64 1), some (.int .i64 (ti (frm r2))), some (.int .i64 2)], 30⟩]) rfl rfl (by rfl) (fun x => (x.setCell ⟨k7, 3, none⟩ (.int .i64 (ti (frm r2))))) (by intro x hx; obtain ⟨u0, z0⟩ := hx.has 6 3 rfl (by simp); have q0 := hx.soft 6 3 rfl; go_simp; (first | done | rfl)) (fun x hx => (hx.put 6 3 (.int .i64 (ti (frm r2))) rfl)) ?_
          refine lin_done ?_
          intro W15 hx
          replace HS := hid hx
          clear hx
          -- region 19
          go_upto_region 19 with fail
          refine lin_begin (St w [⟨k1, [some (.int .i64 1), some (.int .i64 1), some (.int .i64 1), some (.int .i64 0), some (.int .i64 0)], 30⟩, ⟨k2, [some (.int .i64 (ti (frm r1))), some (.int .i64 2), some (.int .i64 1), some (.int .i64 0), some (.int .i64 2)], 30⟩, ⟨k3, [some (.int .i64 (ti (frm r1))), some (.int .i64 2), some (.int .i64 1), some (.int .i64 0), some (.int .i64 0)], 30⟩, ⟨k4, [some (.int .i64 (ti (frm r1))), some (.int .i64 2), some (.int .i64 1), some (.int .i64 0), some (.int .i64 0), some (.int .i64 1), some (.int .i64 1), some (.int .i64 1), some (.int .i64 0), some (.int .i64 0)], 30⟩, ⟨k5, [some (.int .i64 (ti (frm r1))), some (.int .i64 (ti (frm r2))), some (.int .i64 1), some (.int .i64 0), some (.int .i64 2)], 30⟩, ⟨k6, [some (.int .i64 (ti (frm r1))), some (.int .i64 2), some (.int .i64 (ti (frm r2))), some (.int .i64 0), some (.int .i64 2)], 30⟩, ⟨k7, [some (.int .i64 (ti (frm r1))), some (.int .i64 2), some (.int .i64 1), some (.int .i64 (ti (frm r2))), some (.int .i64 2)], 30⟩]) rfl HS.out ?_
          refine lin_val (i := 0) (v := .agg #[.int .i64 (ti (frm r1)), .int .i64 2, .int .i64 1, .int .i64 0, .int .i64 2]) rfl rfl (by rfl) (by intro x hx; have f0 := hx.load 1 0 rfl rfl; have f1 := hx.load 1 1 rfl rfl; have f2 := hx.load 1 2 rfl rfl; have f3 := hx.load 1 3 rfl rfl; have f4 := hx.load 1 4 rfl rfl; go_simp; (first | done | exact rfl)) ?_
          simp only [List.set_cons_succ, List.set_cons_zero]
          refine lin_new (i := 1) rfl rfl (by rfl) [.int .i64 0, .int .i64 0, .int .i64 0, .int .i64 0, .int .i64 0] 30 (fun k => .pointer (some ⟨k, 0, none⟩)) [some (.int .i64 0), some (.int .i64 0), some (.int .i64 0), some (.int .i64 0), some (.int .i64 0)] (lessC_refl _) (by intro x hx; go_simp; (first | done | exact rfl)) (fun k8 => ?_)
          simp only [List.set_cons_succ, List.set_cons_zero]
          refine lin_store (i := 2) (St w [⟨k1, [some (.int .i64 1), some (.int .i64 1), some (.int .i64 1), some (.int .i64 0), some (.int .i64 0)], 30⟩, ⟨k2, [some (.int .i64 (ti (frm r1))), some (.int .i64 2), some (.int .i64 1), some (.int .i64 0), some (.int .i64 2)], 30⟩, ⟨k3, [some (.int .i64 (ti (frm r1))), some (.int .i64 2), some (.int .i64 1), some (.int .i64 0), some (.int .i64 0)], 30⟩, ⟨k4, [some (.int .i64 (ti (frm r1))), some (.int .i64 2), some (.int .i64 1), some (.int .i64 0), some (.int .i64 0), some (.int .i64 1), some (.int .i64 1), some (.int .i64 1), some (.int .i64 0), some (.int .i64 0)], 30⟩, ⟨k5, [some (.int .i64 (ti (frm r1))), some (.int .i64 (ti (frm r2))), some (.int .i64 1), some (.int .i64 0), some (.int .i64 2)], 30⟩, ⟨k6, [some (.int .i64 (ti (frm r1))), some (.int .i64 2), some (.int .i64 (ti (frm r2))), some (.int .i64 0), some (.int .i64 2)], 30⟩, ⟨k7, [some (.int .i64 (ti (frm r1))), some (.int .i64 2), some (.int .i64 1), some (.int .i64 (ti (frm r2))), some (.int .i64 2)], 30⟩, ⟨k8, [some (.int .i64 (ti (frm r1))), some (.int .i64 2), some (.int .i64 1), some (.int .i64 0), some (.int .i64 2)], 30⟩]) rfl rfl (by rfl) (fun x => (((((x.setCell ⟨k8, 0, none⟩ (.int .i64 (ti (frm r1)))).setCell ⟨k8, 1, none⟩ (.int .i64 2)).setCell ⟨k8, 2, none⟩ (.int .i64 1)).setCell ⟨k8, 3, none⟩ (.int .i64 0)).setCell ⟨k8, 4, none⟩ (.int .i64 2))) (by intro x hx; obtain ⟨u0, z0⟩ := hx.has 7 0 rfl (by simp); have q0 := hx.soft 7 0 rfl; obtain ⟨u1, z1⟩ := hx.has 7 1 rfl (by simp); have q1 := hx.soft 7 1 rfl; obtain ⟨u2, z2⟩ := hx.has 7 2 rfl (by simp); have q2 := hx.soft 7 2 rfl; obtain ⟨u3, z3⟩ := hx.has 7 3 rfl (by simp); have q3 := hx.soft 7 3 rfl; obtain ⟨u4, z4⟩ := hx.has 7 4 rfl (by simp); have q4 := hx.soft 7 4 rfl; go_simp; (first | done | rfl)) (fun x hx => (((((hx.put 7 0 (.int .i64 (ti (frm r1))) rfl).put 7 1 (.int .i64 2) rfl).put 7 2 (.int .i64 1) rfl).put 7 3 (.int .i64 0) rfl).put 7 4 (.int .i64 2) rfl)) ?_
          refine lin_done ?_
          intro W16 hx
          replace HS := hid hx
          clear hx
          -- region 20
          go_upto_region 20 with fail
          refine lin_begin (St w [⟨k1, [some (.int .i64 1), some (.int .i64 1), some (.int .i64 1), some (.int .i64 0), some (.int .i64 0)], 30⟩, ⟨k2, [some (.int .i64 (ti (frm r1))), some (.int .i64 2), some (.int .i64 1), some (.int .i64 0), some (.int .i64 2)], 30⟩, ⟨k3, [some (.int .i64 (ti (frm r1))), some (.int .i64 2), some (.int .i64 1), some (.int .i64 0), some (.int .i64 0)], 30⟩, ⟨k4, [some (.int .i64 (ti (frm r1))), some (.int .i64 2), some (.int .i64 1), some (.int .i64 0), some (.int .i64 0), some (.int .i64 1), some (.int .i64 1), some (.int .i64 1), some (.int .i64 0), some (.int .i64 0)], 30⟩, ⟨k5, [some (.int .i64 (ti (frm r1))), some (.int .i64 (ti (frm r2))), some (.int .i64 1), some (.int .i64 0), some (.int .i64 2)], 30⟩, ⟨k6, [some (.int .i64 (ti (frm r1))), some (.int .i64 2), some (.int .i64 (ti (frm r2))), some (.int .i64 0), some (.int .i64 2)], 30⟩, ⟨k7, [some (.int .i64 (ti (frm r1))), some (.int .i64 2), some (.int .i64 1), some (.int .i64 (ti (frm r2))), some (.int .i64 2)], 30⟩, ⟨k8, [some (.int .i64 (ti (frm r1))), some (.int .i64 2), some (.int .i64 1), some (.int .i64 0), some (.int .i64 2)], 30⟩]) rfl HS.out ?_
          refine lin_val (i := 0) (v := .int .i64 (ti (frm r2))) rfl rfl (by rfl) (by intro x hx; go_simp; (first | done | exact rfl)) ?_
          simp only [List.set_cons_succ, List.set_cons_zero]
          refine lin_val (i := 1) (v := .pointer (some ⟨k8, 4, none⟩)) rfl rfl (by rfl) (by intro x hx; go_simp; (first | done | exact rfl)) ?_
          simp only [List.set_cons_succ, List.set_cons_zero]
          refine lin_store (i := 2) (St w [⟨k1, [some (.int .i64 1), some (.int .i64 1), some (.int .i64 1), some (.int .i64 0), some (.int .i64 0)], 30⟩, ⟨k2, [some (.int .i64 (ti (frm r1))), some (.int .i64 2), some (.int .i64 1), some (.int .i64 0), some (.int .i64 2)], 30⟩, ⟨k3, [some (.int .i64 (ti (frm r1))), some (.int .i64 2), some (.int .i64 1), some (.int .i64 0), some (.int .i64 0)], 30⟩, ⟨k4, [some (.int .i64 (ti (frm r1))), some (.int .i64 2), some (.int .i64 1), some (.int .i64 0), some (.int .i64 0), some (.int .i64 1), some (.int .i64 1), some (.int .i64 1), some (.int .i64 0), some (.int .i64 0)], 30⟩, ⟨k5, [some (.int .i64 (ti (frm r1))), some (.int .i64 (ti (frm r2))), some (.int .i64 1), some (.int .i64 0), some (.int .i64 2)], 30⟩, ⟨k6, [some (.int .i64 (ti (frm r1))), some (.int .i64 2), some (.int .i64 (ti (frm r2))), some (.int .i64 0), some (.int .i64 2)], 30⟩, ⟨k7, [some (.int .i64 (ti (frm r1))), some (.int .i64 2), some (.int .i64 1), some (.int .i64 (ti (frm r2))), some (.int .i64 2)], 30⟩, ⟨k8, [some (.int .i64 (ti (frm r1))), some (.int .i64 2), some (.int .i64 1), some (.int .i64 0), some (.int .i64 (ti (frm r2)))], 30⟩]) rfl rfl (by rfl) (fun x => (x.setCell ⟨k8, 4, none⟩ (.int .i64 (ti (frm r2))))) (by intro x hx; obtain ⟨u0, z0⟩ := hx.has 7 4 rfl (by simp); have q0 := hx.soft 7 4 rfl; go_simp; (first | done | rfl)) (fun x hx => (hx.put 7 4 (.int .i64 (ti (frm r2))) rfl)) ?_
          refine lin_done ?_
          intro W17 hx
          replace HS := hid hx
          clear hx
          -- region 21
          go_upto_region 21 with fail
          refine lin_begin (St w [⟨k1, [some (.int .i64 1), some (.int .i64 1), some (.int .i64 1), some (.int .i64 0), some (.int .i64 0)], 30⟩, ⟨k2, [some (.int .i64 (ti (frm r1))), some (.int .i64 2), some (.int .i64 1), some (.int .i64 0), some (.int .i64 2)], 30⟩, ⟨k3, [some (.int .i64 (ti (frm r1))), some (.int .i64 2), some (.int .i64 1), some (.int .i64 0), some (.int .i64 0)], 30⟩, ⟨k4, [some (.int .i64 (ti (frm r1))), some (.int .i64 2), some (.int .i64 1), some (.int .i64 0), some (.int .i64 0), some (.int .i64 1), some (.int .i64 1), some (.int .i64 1), some (.int .i64 0), some (.int .i64 0)], 30⟩, ⟨k5, [some (.int .i64 (ti (frm r1))), some (.int .i64 (ti (frm r2))), some (.int .i64 1), some (.int .i64 0), some (.int .i64 2)], 30⟩, ⟨k6, [some (.int .i64 (ti (frm r1))), some (.int .i64 2), some (.int .i64 (ti (frm r2))), some (.int .i64 0), some (.int .i64 2)], 30⟩, ⟨k7, [some (.int .i64 (ti (frm r1))), some (.int .i64 2), some (.int .i64 1), some (.int .i64 (ti (frm r2))), some (.int .i64 2)], 30⟩, ⟨k8, [some (.int .i64 (ti (frm r1))), some (.int .i64 2), some (.int .i64 1), some (.int .i64 0), some (.int .i64 (ti (frm r2)))], 30⟩]) rfl HS.out ?_
          refine lin_val (i := 0) (v := .agg #[.int .i64 (ti (frm r1)), .int .i64 2, .int .i64 1, .int .i64 0, .int .i64 2]) rfl rfl (by rfl) (by intro x hx; have f0 := hx.load 1 0 rfl rfl; have f1 := hx.load 1 1 rfl rfl; have f2 := hx.load 1 2 rfl rfl; have f3 := hx.load 1 3 rfl rfl; have f4 := hx.load 1 4 rfl rfl; go_simp; (first | done | exact rfl)) ?_
          simp only [List.set_cons_succ, List.set_cons_zero]
          refine lin_val (i := 1) (v := .agg #[.int .i64 1, .int .i64 1, .int .i64 1, .int .i64 0, .int .i64 0]) rfl rfl (by rfl) (by intro x hx; have f0 := hx.load 0 0 rfl rfl; have f1 := hx.load 0 1 rfl rfl; have f2 := hx.load 0 2 rfl rfl; have f3 := hx.load 0 3 rfl rfl; have f4 := hx.load 0 4 rfl rfl; go_simp; (first | done | exact rfl)) ?_
          simp only [List.set_cons_succ, List.set_cons_zero]
          refine lin_new (i := 2) rfl rfl (by rfl) [.int .i64 (ti (frm r1)), .int .i64 2, .int .i64 1, .int .i64 0, .int .i64 2, .int .i64 1, .int .i64 1, .int .i64 1, .int .i64 0, .int .i64 0] 30 (fun k => .slice (some ⟨k, 0, none⟩) 2 2) [some (.int .i64 (ti (frm r1))), some (.int .i64 2), some (.int .i64 1), some (.int .i64 0), some (.int .i64 2), some (.int .i64 1), some (.int .i64 1), some (.int .i64 1), some (.int .i64 0), some (.int .i64 0)] (lessC_refl _) (by intro x hx; go_simp; (first | done | exact rfl)) (fun k9 => ?_)
          simp only [List.set_cons_succ, List.set_cons_zero]
          refine lin_call (i := 3) (f := 3) (args := #[.slice (some ⟨k9, 0, none⟩) 2 2]) (v := .bool true) (st_ups _ _) rfl rfl (by rfl) (fun x hx => by kernel_rfl) (by intro x hx; exact declChecks_any _ 2 2 [Dc.mk (frm r1) 2#64 1#64 0#64 2#64, Dc.mk 1#64 1#64 1#64 0#64 0#64] x (arg_st hx 8 rfl [Dc.mk (frm r1) 2#64 1#64 0#64 2#64, Dc.mk 1#64 1#64 1#64 0#64 0#64] (by rfl)) (by omega) (HT.out.up hx.below)) ?_
          simp only [List.set_cons_succ, List.set_cons_zero]
          refine lin_val (i := 4) (v := .bool false) rfl rfl (by rfl) (by intro x hx; go_simp; (first | done | exact rfl)) ?_
          simp only [List.set_cons_succ, List.set_cons_zero]
          refine lin_val (i := 5) (v := .bool false) rfl rfl (by rfl) (by intro x hx; go_simp; (first | done | exact rfl)) ?_
          simp only [List.set_cons_succ, List.set_cons_zero]
          refine lin_val (i := 6) (v := .agg #[.int .i64 (ti (frm r1)), .int .i64 (ti (frm r2)), .int .i64 1, .int .i64 0, .int .i64 2]) rfl rfl (by rfl) (by intro x hx; have f0 := hx.load 4 0 rfl rfl; have f1 := hx.load 4 1 rfl rfl; have f2 := hx.load 4 2 rfl rfl; have f3 := hx.load 4 3 rfl rfl; have f4 := hx.load 4 4 rfl rfl; go_simp; (first | done | exact rfl)) ?_
          simp only [List.set_cons_succ, List.set_cons_zero]
          refine lin_val (i := 7) (v := .agg #[.int .i64 1, .int .i64 1, .int .i64 1, .int .i64 0, .int .i64 0]) rfl rfl (by rfl) (by intro x hx; have f0 := hx.load 0 0 rfl rfl; have f1 := hx.load 0 1 rfl rfl; have f2 := hx.load 0 2 rfl rfl; have f3 := hx.load 0 3 rfl rfl; have f4 := hx.load 0 4 rfl rfl; go_simp; (first | done | exact rfl)) ?_
          simp only [List.set_cons_succ, List.set_cons_zero]
          refine lin_new (i := 8) rfl rfl (by rfl) [.int .i64 (ti (frm r1)), .int .i64 (ti (frm r2)), .int .i64 1, .int .i64 0, .int .i64 2, .int .i64 1, .int .i64 1, .int .i64 1, .int .i64 0, .int .i64 0] 30 (fun k => .slice (some ⟨k, 0, none⟩) 2 2) [some (.int .i64 (ti (frm r1))), some (.int .i64 (ti (frm r2))), some (.int .i64 1), some (.int .i64 0), some (.int .i64 2), some (.int .i64 1), some (.int .i64 1), some (.int .i64 1), some (.int .i64 0), some (.int .i64 0)] (lessC_refl _) (by intro x hx; go_simp; (first | done | exact rfl)) (fun k10 => ?_)
          simp only [List.set_cons_succ, List.set_cons_zero]
          refine lin_call (i := 9) (f := 3) (args := #[.slice (some ⟨k10, 0, none⟩) 2 2]) (v := .bool true) (st_ups _ _) rfl rfl (by rfl) (fun x hx => by kernel_rfl) (by intro x hx; exact declChecks_any _ 2 2 [Dc.mk (frm r1) (frm r2) 1#64 0#64 2#64, Dc.mk 1#64 1#64 1#64 0#64 0#64] x (arg_st hx 9 rfl [Dc.mk (frm r1) (frm r2) 1#64 0#64 2#64, Dc.mk 1#64 1#64 1#64 0#64 0#64] (by rfl)) (by omega) (HT.out.up hx.below)) ?_
          simp only [List.set_cons_succ, List.set_cons_zero]
          refine lin_val (i := 10) (v := .bool false) rfl rfl (by rfl) (by intro x hx; go_simp; (first | done | exact rfl)) ?_
          simp only [List.set_cons_succ, List.set_cons_zero]
          refine lin_val (i := 11) (v := .bool false) rfl rfl (by rfl) (by intro x hx; go_simp; (first | done | exact rfl)) ?_
          simp only [List.set_cons_succ, List.set_cons_zero]
          refine lin_val (i := 12) (v := .bool false) rfl rfl (by rfl) (by intro x hx; go_simp; (first | done | exact rfl)) ?_
          simp only [List.set_cons_succ, List.set_cons_zero]
          refine lin_val (i := 13) (v := .agg #[.int .i64 (ti (frm r1)), .int .i64 2, .int .i64 (ti (frm r2)), .int .i64 0, .int .i64 2]) rfl rfl (by rfl) (by intro x hx; have f0 := hx.load 5 0 rfl rfl; have f1 := hx.load 5 1 rfl rfl; have f2 := hx.load 5 2 rfl rfl; have f3 := hx.load 5 3 rfl rfl; have f4 := hx.load 5 4 rfl rfl; go_simp; (first | done | exact rfl)) ?_
          simp only [List.set_cons_succ, List.set_cons_zero]
          refine lin_val (i := 14) (v := .agg #[.int .i64 1, .int .i64 1, .int .i64 1, .int .i64 0, .int .i64 0]) rfl rfl (by rfl) (by intro x hx; have f0 := hx.load 0 0 rfl rfl; have f1 := hx.load 0 1 rfl rfl; have f2 := hx.load 0 2 rfl rfl; have f3 := hx.load 0 3 rfl rfl; have f4 := hx.load 0 4 rfl rfl; go_simp; (first | done | exact rfl)) ?_
          simp only [List.set_cons_succ, List.set_cons_zero]
          refine lin_new (i := 15) rfl rfl (by rfl) [.int .i64 (ti (frm r1)), .int .i64 2, .int .i64 (ti (frm r2)), .int .i64 0, .int .i64 2, .int .i64 1, .int .i64 1, .int .i64 1, .int .i64 0, .int .i64 0] 30 (fun k => .slice (some ⟨k, 0, none⟩) 2 2) [some (.int .i64 (ti (frm r1))), some (.int .i64 2), some (.int .i64 (ti (frm r2))), some (.int .i64 0), some (.int .i64 2), some (.int .i64 1), some (.int .i64 1), some (.int .i64 1), some (.int .i64 0), some (.int .i64 0)] (lessC_refl _) (by intro x hx; go_simp; (first | done | exact rfl)) (fun k11 => ?_)
          simp only [List.set_cons_succ, List.set_cons_zero]
          refine lin_call (i := 16) (f := 3) (args := #[.slice (some ⟨k11, 0, none⟩) 2 2]) (v := .bool true) (st_ups _ _) rfl rfl (by rfl) (fun x hx => by kernel_rfl) (by intro x hx; exact declChecks_any _ 2 2 [Dc.mk (frm r1) 2#64 (frm r2) 0#64 2#64, Dc.mk 1#64 1#64 1#64 0#64 0#64] x (arg_st hx 10 rfl [Dc.mk (frm r1) 2#64 (frm r2) 0#64 2#64, Dc.mk 1#64 1#64 1#64 0#64 0#64] (by rfl)) (by omega) (HT.out.up hx.below)) ?_
          simp only [List.set_cons_succ, List.set_cons_zero]
          refine lin_val (i := 17) (v := .bool false) rfl rfl (by rfl) (by intro x hx; go_simp; (first | done | exact rfl)) ?_
          simp only [List.set_cons_succ, List.set_cons_zero]
          refine lin_val (i := 18) (v := .bool false) rfl rfl (by rfl) (by intro x hx; go_simp; (first | done | exact rfl)) ?_
          simp only [List.set_cons_succ, List.set_cons_zero]
          refine lin_val (i := 19) (v := .bool false) rfl rfl (by rfl) (by intro x hx; go_simp; (first | done | exact rfl)) ?_
          simp only [List.set_cons_succ, List.set_cons_zero]
          refine lin_val (i := 20) (v := .agg #[.int .i64 (ti (frm r1)), .int .i64 2, .int .i64 1, .int .i64 (ti (frm r2)), .int .i64 2]) rfl rfl (by rfl) (by intro x hx; have f0 := hx.load 6 0 rfl rfl; have f1 := hx.load 6 1 rfl rfl; have f2 := hx.load 6 2 rfl rfl; have f3 := hx.load 6 3 rfl rfl; have f4 := hx.load 6 4 rfl rfl; go_simp; (first | done | exact rfl)) ?_
          simp only [List.set_cons_succ, List.set_cons_zero]
          refine lin_val (i := 21) (v := .agg #[.int .i64 1, .int .i64 1, .int .i64 1, .int .i64 0, .int .i64 0]) rfl rfl (by rfl) (by intro x hx; have f0 := hx.load 0 0 rfl rfl; have f1 := hx.load 0 1 rfl rfl; have f2 := hx.load 0 2 rfl rfl; have f3 := hx.load 0 3 rfl rfl; have f4 := hx.load 0 4 rfl rfl; go_simp; (first | done | exact rfl)) ?_
          simp only [List.set_cons_succ, List.set_cons_zero]
          refine lin_new (i := 22) rfl rfl (by rfl) [.int .i64 (ti (frm r1)), .int .i64 2, .int .i64 1, .int .i64 (ti (frm r2)), .int .i64 2, .int .i64 1, .int .i64 1, .int .i64 1, .int .i64 0, .int .i64 0] 30 (fun k => .slice (some ⟨k, 0, none⟩) 2 2) [some (.int .i64 (ti (frm r1))), some (.int .i64 2), some (.int .i64 1), some (.int .i64 (ti (frm r2))), some (.int .i64 2), some (.int .i64 1), some (.int .i64 1), some (.int .i64 1), some (.int .i64 0), some (.int .i64 0)] (lessC_refl _) (by intro x hx; go_simp; (first | done | exact rfl)) (fun k12 => ?_)
          simp only [List.set_cons_succ, List.set_cons_zero]
          refine lin_call (i := 23) (f := 3) (args := #[.slice (some ⟨k12, 0, none⟩) 2 2]) (v := .bool true) (st_ups _ _) rfl rfl (by rfl) (fun x hx => by kernel_rfl) (by intro x hx; exact declChecks_any _ 2 2 [Dc.mk (frm r1) 2#64 1#64 (frm r2) 2#64, Dc.mk 1#64 1#64 1#64 0#64 0#64] x (arg_st hx 11 rfl [Dc.mk (frm r1) 2#64 1#64 (frm r2) 2#64, Dc.mk 1#64 1#64 1#64 0#64 0#64] (by rfl)) (by omega) (HT.out.up hx.below)) ?_
          simp only [List.set_cons_succ, List.set_cons_zero]
          refine lin_val (i := 24) (v := .bool false) rfl rfl (by rfl) (by intro x hx; go_simp; (first | done | exact rfl)) ?_
          simp only [List.set_cons_succ, List.set_cons_zero]
          refine lin_val (i := 25) (v := .bool false) rfl rfl (by rfl) (by intro x hx; go_simp; (first | done | exact rfl)) ?_
          simp only [List.set_cons_succ, List.set_cons_zero]
          refine lin_val (i := 26) (v := .bool false) rfl rfl (by rfl) (by intro x hx; go_simp; (first | done | exact rfl)) ?_
          simp only [List.set_cons_succ, List.set_cons_zero]
          refine lin_val (i := 27) (v := .agg #[.int .i64 (ti (frm r1)), .int .i64 2, .int .i64 1, .int .i64 0, .int .i64 (ti (frm r2))]) rfl rfl (by rfl) (by intro x hx; have f0 := hx.load 7 0 rfl rfl; have f1 := hx.load 7 1 rfl rfl; have f2 := hx.load 7 2 rfl rfl; have f3 := hx.load 7 3 rfl rfl; have f4 := hx.load 7 4 rfl rfl; go_simp; (first | done | exact rfl)) ?_
          simp only [List.set_cons_succ, List.set_cons_zero]
          refine lin_val (i := 28) (v := .agg #[.int .i64 1, .int .i64 1, .int .i64 1, .int .i64 0, .int .i64 0]) rfl rfl (by rfl) (by intro x hx; have f0 := hx.load 0 0 rfl rfl; have f1 := hx.load 0 1 rfl rfl; have f2 := hx.load 0 2 rfl rfl; have f3 := hx.load 0 3 rfl rfl; have f4 := hx.load 0 4 rfl rfl; go_simp; (first | done | exact rfl)) ?_
          simp only [List.set_cons_succ, List.set_cons_zero]
          refine lin_new (i := 29) rfl rfl (by rfl) [.int .i64 (ti (frm r1)), .int .i64 2, .int .i64 1, .int .i64 0, .int .i64 (ti (frm r2)), .int .i64 1, .int .i64 1, .int .i64 1, .int .i64 0, .int .i64 0] 30 (fun k => .slice (some ⟨k, 0, none⟩) 2 2) [some (.int .i64 (ti (frm r1))), some (.int .i64 2), some (.int .i64 1), some (.int .i64 0), some (.int .i64 (ti (frm r2))), some (.int .i64 1), some (.int .i64 1), some (.int .i64 1), some (.int .i64 0), some (.int .i64 0)] (lessC_refl _) (by intro x hx; go_simp; (first | done | exact rfl)) (fun k13 => ?_)
          simp only [List.set_cons_succ, List.set_cons_zero]
          refine lin_call (i := 30) (f := 3) (args := #[.slice (some ⟨k13, 0, none⟩) 2 2]) (v := .bool true) (st_ups _ _) rfl rfl (by rfl) (fun x hx => by kernel_rfl) (by intro x hx; exact declChecks_any _ 2 2 [Dc.mk (frm r1) 2#64 1#64 0#64 (frm r2), Dc.mk 1#64 1#64 1#64 0#64 0#64] x (arg_st hx 12 rfl [Dc.mk (frm r1) 2#64 1#64 0#64 (frm r2), Dc.mk 1#64 1#64 1#64 0#64 0#64] (by rfl)) (by omega) (HT.out.up hx.below)) ?_
          simp only [List.set_cons_succ, List.set_cons_zero]
          refine lin_val (i := 31) (v := .bool false) rfl rfl (by rfl) (by intro x hx; go_simp; (first | done | exact rfl)) ?_
          simp only [List.set_cons_succ, List.set_cons_zero]
          refine lin_val (i := 32) (v := .bool false) rfl rfl (by rfl) (by intro x hx; go_simp; (first | done | exact rfl)) ?_
          simp only [List.set_cons_succ, List.set_cons_zero]
          refine lin_val (i := 33) (v := .bool false) rfl rfl (by rfl) (by intro x hx; go_simp; (first | done | exact rfl)) ?_
          simp only [List.set_cons_succ, List.set_cons_zero]
          refine lin_val (i := 34) (v := .agg #[.int .i64 (ti (frm r1)), .int .i64 2, .int .i64 1, .int .i64 0, .int .i64 2]) rfl rfl (by rfl) (by intro x hx; have f0 := hx.load 1 0 rfl rfl; have f1 := hx.load 1 1 rfl rfl; have f2 := hx.load 1 2 rfl rfl; have f3 := hx.load 1 3 rfl rfl; have f4 := hx.load 1 4 rfl rfl; go_simp; (first | done | exact rfl)) ?_
          simp only [List.set_cons_succ, List.set_cons_zero]
          refine lin_val (i := 35) (v := .agg #[.int .i64 (ti (frm r1)), .int .i64 2, .int .i64 1, .int .i64 0, .int .i64 (ti (frm r2))]) rfl rfl (by rfl) (by intro x hx; have f0 := hx.load 7 0 rfl rfl; have f1 := hx.load 7 1 rfl rfl; have f2 := hx.load 7 2 rfl rfl; have f3 := hx.load 7 3 rfl rfl; have f4 := hx.load 7 4 rfl rfl; go_simp; (first | done | exact rfl)) ?_
          simp only [List.set_cons_succ, List.set_cons_zero]
          refine lin_val (i := 36) (v := .int .i64 (ti (frm r2))) rfl rfl (by rfl) (by intro x hx; go_simp; (first | done | exact rfl)) ?_
          simp only [List.set_cons_succ, List.set_cons_zero]
          refine lin_val (i := 37) (v := .int .u64 (tn (frm r2))) rfl rfl (by rfl) (by intro x hx; go_simp; (first | done | exact backI (frm r2) | exact congrArg _ (backI (frm r2)) | (rw [backI (frm r2)]; done) | (rw [backI (frm r2)]; rfl))) ?_
          simp only [List.set_cons_succ, List.set_cons_zero]
          refine lin_val (i := 38) (v := .int .i64 (ti (frm r2))) rfl rfl (by rfl) (by intro x hx; go_simp; (first | done | exact rfl)) ?_
          simp only [List.set_cons_succ, List.set_cons_zero]
          refine lin_call (i := 39) (f := 4) (args := #[.agg #[.int .i64 (ti (frm r1)), .int .i64 (ti (2#64)), .int .i64 (ti (1#64)), .int .i64 (ti (0#64)), .int .i64 (ti (2#64))], .agg #[.int .i64 (ti (frm r1)), .int .i64 (ti (2#64)), .int .i64 (ti (1#64)), .int .i64 (ti (0#64)), .int .i64 (ti (frm r2))], .int .u64 (tn (frm r2)), .int .u64 (tn (5#64)), .int .i64 (ti (frm r2))]) (v := .bool true) (st_ups _ _) rfl rfl (by rfl) (fun x hx => by kernel_rfl) (by intro x hx; exact declTells (Dc.mk (frm r1) 2#64 1#64 0#64 2#64) (Dc.mk (frm r1) 2#64 1#64 0#64 (frm r2)) (frm r2) 5#64 (frm r2) _ (HT.out.up hx.below)) ?_
          simp only [List.set_cons_succ, List.set_cons_zero]
          refine lin_val (i := 40) (v := .bool false) rfl rfl (by rfl) (by intro x hx; go_simp; (first | done | exact rfl)) ?_
          simp only [List.set_cons_succ, List.set_cons_zero]
          refine lin_val (i := 41) (v := .bool false) rfl rfl (by rfl) (by intro x hx; go_simp; (first | done | exact rfl)) ?_
          simp only [List.set_cons_succ, List.set_cons_zero]
          refine lin_done ?_
          intro W18 hx
          replace HS := hid hx
          clear hx
          -- region 7
          go_upto_region 7 with fail
          refine lin_begin (St w [⟨k1, [some (.int .i64 1), some (.int .i64 1), some (.int .i64 1), some (.int .i64 0), some (.int .i64 0)], 30⟩, ⟨k2, [some (.int .i64 (ti (frm r1))), some (.int .i64 2), some (.int .i64 1), some (.int .i64 0), some (.int .i64 2)], 30⟩, ⟨k3, [some (.int .i64 (ti (frm r1))), some (.int .i64 2), some (.int .i64 1), some (.int .i64 0), some (.int .i64 0)], 30⟩, ⟨k4, [some (.int .i64 (ti (frm r1))), some (.int .i64 2), some (.int .i64 1), some (.int .i64 0), some (.int .i64 0), some (.int .i64 1), some (.int .i64 1), some (.int .i64 1), some (.int .i64 0), some (.int .i64 0)], 30⟩, ⟨k5, [some (.int .i64 (ti (frm r1))), some (.int .i64 (ti (frm r2))), some (.int .i64 1), some (.int .i64 0), some (.int .i64 2)], 30⟩, ⟨k6, [some (.int .i64 (ti (frm r1))), some (.int .i64 2), some (.int .i64 (ti (frm r2))), some (.int .i64 0), some (.int .i64 2)], 30⟩, ⟨k7, [some (.int .i64 (ti (frm r1))), some (.int .i64 2), some (.int .i64 1), some (.int .i64 (ti (frm r2))), some (.int .i64 2)], 30⟩, ⟨k8, [some (.int .i64 (ti (frm r1))), some (.int .i64 2), some (.int .i64 1), some (.int .i64 0), some (.int .i64 (ti (frm r2)))], 30⟩, ⟨k9, [some (.int .i64 (ti (frm r1))), some (.int .i64 2), some (.int .i64 1), some (.int .i64 0), some (.int .i64 2), some (.int .i64 1), some (.int .i64 1), some (.int .i64 1), some (.int .i64 0), some (.int .i64 0)], 30⟩, ⟨k10, [some (.int .i64 (ti (frm r1))), some (.int .i64 (ti (frm r2))), some (.int .i64 1), some (.int .i64 0), some (.int .i64 2), some (.int .i64 1), some (.int .i64 1), some (.int .i64 1), some (.int .i64 0), some (.int .i64 0)], 30⟩, ⟨k11, [some (.int .i64 (ti (frm r1))), some (.int .i64 2), some (.int .i64 (ti (frm r2))), some (.int .i64 0), some (.int .i64 2), some (.int .i64 1), some (.int .i64 1), some (.int .i64 1), some (.int .i64 0), some (.int .i64 0)], 30⟩, ⟨k12, [some (.int .i64 (ti (frm r1))), some (.int .i64 2), some (.int .i64 1), some (.int .i64 (ti (frm r2))), some (.int .i64 2), some (.int .i64 1), some (.int .i64 1), some (.int .i64 1), some (.int .i64 0), some (.int .i64 0)], 30⟩, ⟨k13, [some (.int .i64 (ti (frm r1))), some (.int .i64 2), some (.int .i64 1), some (.int .i64 0), some (.int .i64 (ti (frm r2))), some (.int .i64 1), some (.int .i64 1), some (.int .i64 1), some (.int .i64 0), some (.int .i64 0)], 30⟩]) rfl HS.out ?_
          refine lin_val (i := 0) (v := .int .i64 (ti (frm r2))) rfl rfl (by rfl) (by intro x hx; go_simp; (first | done | exact rfl)) ?_
          simp only [List.set_cons_succ, List.set_cons_zero]
          refine lin_val (i := 1) (v := .int .i64 (ti ((frm r2) + 1#64))) rfl rfl (by rfl) (by intro x hx; exact (show _ = Result.ok (Next.value (.int .i64 (IntKind.i64.wrap ((ti (frm r2) : Int) + (1))))) x by kernel_rfl).trans (by rw [show (1 : Int) = ti 1#64 from by decide, addIT (frm r2) 1#64])) ?_
          simp only [List.set_cons_succ, List.set_cons_zero]
          refine lin_val (i := 2) (v := .int .i64 (ti ((frm r2) + 1#64))) rfl rfl (by rfl) (by intro x hx; go_simp; (first | done | exact rfl)) ?_
          simp only [List.set_cons_succ, List.set_cons_zero]
          refine lin_done ?_
          intro W19 hx
          replace HS := hid hx
          clear hx
          go_wp2
          rw [frm_next r2]
          exact ⟨hlt2, hid ⟨_, _, _, _, _, _, _, _, _, _, _, _, _, _, _, _, _, _, _, _, _, _, _, _, _, _, _, _, _, _, _, _, _, _, _, _, _, _, _, _, _, _, _, _, _, _, _, _, _, _, _, _, _, _, _, _, _, _, _, _, _, _, _, _, _, _, _, _, _, _, _, _, _, _, _, _, _, rfl, (HS.out.cut 1)⟩⟩
      · replace h1 := hid h1
        -- region 10
        go_upto_region 10 with fail
        refine lin_begin (St w [⟨k1, [some (.int .i64 1), some (.int .i64 1), some (.int .i64 1), some (.int .i64 0), some (.int .i64 0)], 30⟩, ⟨k2, [some (.int .i64 (ti (frm r1))), some (.int .i64 2), some (.int .i64 1), some (.int .i64 0), some (.int .i64 0)], 30⟩, ⟨k3, [some (.int .i64 (ti (frm r1))), some (.int .i64 2), some (.int .i64 1), some (.int .i64 0), some (.int .i64 0)], 30⟩]) rfl HS.out ?_
        refine lin_val (i := 0) (v := .pointer (some ⟨k2, 3, none⟩)) rfl rfl (by rfl) (by intro x hx; go_simp; (first | done | exact rfl)) ?_
        simp only [List.set_cons_succ, List.set_cons_zero]
        refine lin_store (i := 1) (St w [⟨k1, [some (.int .i64 1), some (.int .i64 1), some (.int .i64 1), some (.int .i64 0), some (.int .i64 0)], 30⟩, ⟨k2, [some (.int .i64 (ti (frm r1))), some (.int .i64 2), some (.int .i64 1), some (.int .i64 4), some (.int .i64 0)], 30⟩, ⟨k3, [some (.int .i64 (ti (frm r1))), some (.int .i64 2), some (.int .i64 1), some (.int .i64 0), some (.int .i64 0)], 30⟩]) rfl rfl (by rfl) (fun x => (x.setCell ⟨k2, 3, none⟩ (.int .i64 4))) (by intro x hx; obtain ⟨u0, z0⟩ := hx.has 1 3 rfl (by simp); have q0 := hx.soft 1 3 rfl; go_simp; (first | done | rfl)) (fun x hx => (hx.put 1 3 (.int .i64 4) rfl)) ?_
        refine lin_done ?_
        intro W8 hx
        replace HS := hid hx
        clear hx
        -- region 11
        go_upto_region 11 with fail
        refine lin_begin (St w [⟨k1, [some (.int .i64 1), some (.int .i64 1), some (.int .i64 1), some (.int .i64 0), some (.int .i64 0)], 30⟩, ⟨k2, [some (.int .i64 (ti (frm r1))), some (.int .i64 2), some (.int .i64 1), some (.int .i64 4), some (.int .i64 0)], 30⟩, ⟨k3, [some (.int .i64 (ti (frm r1))), some (.int .i64 2), some (.int .i64 1), some (.int .i64 0), some (.int .i64 0)], 30⟩]) rfl HS.out ?_
        refine lin_val (i := 0) (v := .agg #[.int .i64 (ti (frm r1)), .int .i64 2, .int .i64 1, .int .i64 4, .int .i64 0]) rfl rfl (by rfl) (by intro x hx; have f0 := hx.load 1 0 rfl rfl; have f1 := hx.load 1 1 rfl rfl; have f2 := hx.load 1 2 rfl rfl; have f3 := hx.load 1 3 rfl rfl; have f4 := hx.load 1 4 rfl rfl; go_simp; (first | done | exact rfl)) ?_
        simp only [List.set_cons_succ, List.set_cons_zero]
        refine lin_val (i := 1) (v := .agg #[.int .i64 1, .int .i64 1, .int .i64 1, .int .i64 0, .int .i64 0]) rfl rfl (by rfl) (by intro x hx; have f0 := hx.load 0 0 rfl rfl; have f1 := hx.load 0 1 rfl rfl; have f2 := hx.load 0 2 rfl rfl; have f3 := hx.load 0 3 rfl rfl; have f4 := hx.load 0 4 rfl rfl; go_simp; (first | done | exact rfl)) ?_
        simp only [List.set_cons_succ, List.set_cons_zero]
        refine lin_new (i := 2) rfl rfl (by rfl) [.int .i64 (ti (frm r1)), .int .i64 2, .int .i64 1, .int .i64 4, .int .i64 0, .int .i64 1, .int .i64 1, .int .i64 1, .int .i64 0, .int .i64 0] 30 (fun k => .slice (some ⟨k, 0, none⟩) 2 2) [some (.int .i64 (ti (frm r1))), some (.int .i64 2), some (.int .i64 1), some (.int .i64 4), some (.int .i64 0), some (.int .i64 1), some (.int .i64 1), some (.int .i64 1), some (.int .i64 0), some (.int .i64 0)] (lessC_refl _) (by intro x hx; go_simp; (first | done | exact rfl)) (fun k4 => ?_)
        simp only [List.set_cons_succ, List.set_cons_zero]
        refine lin_call (i := 3) (f := 10) (args := #[.slice (some ⟨k4, 0, none⟩) 2 2]) (v := .int .i64 (ti (chkD [Dc.mk (frm r1) 2#64 1#64 4#64 0#64, Dc.mk 1#64 1#64 1#64 0#64 0#64]))) (st_ups _ _) rfl rfl (by rfl) (fun x hx => by kernel_rfl) (by intro x hx; exact check_any [Dc.mk (frm r1) 2#64 1#64 4#64 0#64, Dc.mk 1#64 1#64 1#64 0#64 0#64] _ 2 2 x (arg_st hx 3 rfl [Dc.mk (frm r1) 2#64 1#64 4#64 0#64, Dc.mk 1#64 1#64 1#64 0#64 0#64] (by rfl)) (HT.out.up hx.below)) ?_
        simp only [List.set_cons_succ, List.set_cons_zero]
        refine lin_val (i := 4) (v := .bool (((chkD [Dc.mk (frm r1) 2#64 1#64 4#64 0#64, Dc.mk 1#64 1#64 1#64 0#64 0#64]) != 0#64))) rfl rfl (by rfl) (by intro x hx; go_simp; (first | done | exact neIT (chkD [Dc.mk (frm r1) 2#64 1#64 4#64 0#64, Dc.mk 1#64 1#64 1#64 0#64 0#64]) 0#64 | exact congrArg _ (neIT (chkD [Dc.mk (frm r1) 2#64 1#64 4#64 0#64, Dc.mk 1#64 1#64 1#64 0#64 0#64]) 0#64) | (rw [neIT (chkD [Dc.mk (frm r1) 2#64 1#64 4#64 0#64, Dc.mk 1#64 1#64 1#64 0#64 0#64]) 0#64]; done) | (rw [neIT (chkD [Dc.mk (frm r1) 2#64 1#64 4#64 0#64, Dc.mk 1#64 1#64 1#64 0#64 0#64]) 0#64]; rfl))) ?_
        simp only [List.set_cons_succ, List.set_cons_zero]
        refine lin_done ?_
        intro W9 hx
        replace HS := hid hx
        clear hx
        cases h2 : (((chkD [Dc.mk (frm r1) 2#64 1#64 4#64 0#64, Dc.mk 1#64 1#64 1#64 0#64 0#64]) != 0#64))
        · replace h2 := hid h2
          -- region 13
          go_upto_region 13 with fail
          refine lin_begin (St w [⟨k1, [some (.int .i64 1), some (.int .i64 1), some (.int .i64 1), some (.int .i64 0), some (.int .i64 0)], 30⟩, ⟨k2, [some (.int .i64 (ti (frm r1))), some (.int .i64 2), some (.int .i64 1), some (.int .i64 4), some (.int .i64 0)], 30⟩, ⟨k3, [some (.int .i64 (ti (frm r1))), some (.int .i64 2), some (.int .i64 1), some (.int .i64 0), some (.int .i64 0)], 30⟩, ⟨k4, [some (.int .i64 (ti (frm r1))), some (.int .i64 2), some (.int .i64 1), some (.int .i64 4), some (.int .i64 0), some (.int .i64 1), some (.int .i64 1), some (.int .i64 1), some (.int .i64 0), some (.int .i64 0)], 30⟩]) rfl HS.out ?_
          refine lin_val (i := 0) (v := .agg #[.int .i64 (ti (frm r1)), .int .i64 2, .int .i64 1, .int .i64 4, .int .i64 0]) rfl rfl (by rfl) (by intro x hx; have f0 := hx.load 1 0 rfl rfl; have f1 := hx.load 1 1 rfl rfl; have f2 := hx.load 1 2 rfl rfl; have f3 := hx.load 1 3 rfl rfl; have f4 := hx.load 1 4 rfl rfl; go_simp; (first | done | exact rfl)) ?_
          simp only [List.set_cons_succ, List.set_cons_zero]
          refine lin_new (i := 1) rfl rfl (by rfl) [.int .i64 0, .int .i64 0, .int .i64 0, .int .i64 0, .int .i64 0] 30 (fun k => .pointer (some ⟨k, 0, none⟩)) [some (.int .i64 0), some (.int .i64 0), some (.int .i64 0), some (.int .i64 0), some (.int .i64 0)] (lessC_refl _) (by intro x hx; go_simp; (first | done | exact rfl)) (fun k5 => ?_)
          simp only [List.set_cons_succ, List.set_cons_zero]
          refine lin_store (i := 2) (St w [⟨k1, [some (.int .i64 1), some (.int .i64 1), some (.int .i64 1), some (.int .i64 0), some (.int .i64 0)], 30⟩, ⟨k2, [some (.int .i64 (ti (frm r1))), some (.int .i64 2), some (.int .i64 1), some (.int .i64 4), some (.int .i64 0)], 30⟩, ⟨k3, [some (.int .i64 (ti (frm r1))), some (.int .i64 2), some (.int .i64 1), some (.int .i64 0), some (.int .i64 0)], 30⟩, ⟨k4, [some (.int .i64 (ti (frm r1))), some (.int .i64 2), some (.int .i64 1), some (.int .i64 4), some (.int .i64 0), some (.int .i64 1), some (.int .i64 1), some (.int .i64 1), some (.int .i64 0), some (.int .i64 0)], 30⟩, ⟨k5, [some (.int .i64 (ti (frm r1))), some (.int .i64 2), some (.int .i64 1), some (.int .i64 4), some (.int .i64 0)], 30⟩]) rfl rfl (by rfl) (fun x => (((((x.setCell ⟨k5, 0, none⟩ (.int .i64 (ti (frm r1)))).setCell ⟨k5, 1, none⟩ (.int .i64 2)).setCell ⟨k5, 2, none⟩ (.int .i64 1)).setCell ⟨k5, 3, none⟩ (.int .i64 4)).setCell ⟨k5, 4, none⟩ (.int .i64 0))) (by intro x hx; obtain ⟨u0, z0⟩ := hx.has 4 0 rfl (by simp); have q0 := hx.soft 4 0 rfl; obtain ⟨u1, z1⟩ := hx.has 4 1 rfl (by simp); have q1 := hx.soft 4 1 rfl; obtain ⟨u2, z2⟩ := hx.has 4 2 rfl (by simp); have q2 := hx.soft 4 2 rfl; obtain ⟨u3, z3⟩ := hx.has 4 3 rfl (by simp); have q3 := hx.soft 4 3 rfl; obtain ⟨u4, z4⟩ := hx.has 4 4 rfl (by simp); have q4 := hx.soft 4 4 rfl; go_simp; (first | done | rfl)) (fun x hx => (((((hx.put 4 0 (.int .i64 (ti (frm r1))) rfl).put 4 1 (.int .i64 2) rfl).put 4 2 (.int .i64 1) rfl).put 4 3 (.int .i64 4) rfl).put 4 4 (.int .i64 0) rfl)) ?_
          refine lin_done ?_
          intro W10 hx
          replace HS := hid hx
          clear hx
          -- region 14
          go_upto_region 14 with fail
          refine lin_begin (St w [⟨k1, [some (.int .i64 1), some (.int .i64 1), some (.int .i64 1), some (.int .i64 0), some (.int .i64 0)], 30⟩, ⟨k2, [some (.int .i64 (ti (frm r1))), some (.int .i64 2), some (.int .i64 1), some (.int .i64 4), some (.int .i64 0)], 30⟩, ⟨k3, [some (.int .i64 (ti (frm r1))), some (.int .i64 2), some (.int .i64 1), some (.int .i64 0), some (.int .i64 0)], 30⟩, ⟨k4, [some (.int .i64 (ti (frm r1))), some (.int .i64 2), some (.int .i64 1), some (.int .i64 4), some (.int .i64 0), some (.int .i64 1), some (.int .i64 1), some (.int .i64 1), some (.int .i64 0), some (.int .i64 0)], 30⟩, ⟨k5, [some (.int .i64 (ti (frm r1))), some (.int .i64 2), some (.int .i64 1), some (.int .i64 4), some (.int .i64 0)], 30⟩]) rfl HS.out ?_
          refine lin_val (i := 0) (v := .int .i64 (ti (frm r2))) rfl rfl (by rfl) (by intro x hx; go_simp; (first | done | exact rfl)) ?_
          simp only [List.set_cons_succ, List.set_cons_zero]
          refine lin_val (i := 1) (v := .pointer (some ⟨k5, 1, none⟩)) rfl rfl (by rfl) (by intro x hx; go_simp; (first | done | exact rfl)) ?_
          simp only [List.set_cons_succ, List.set_cons_zero]
          refine lin_store (i := 2) (St w [⟨k1, [some (.int .i64 1), some (.int .i64 1), some (.int .i64 1), some (.int .i64 0), some (.int .i64 0)], 30⟩, ⟨k2, [some (.int .i64 (ti (frm r1))), some (.int .i64 2), some (.int .i64 1), some (.int .i64 4), some (.int .i64 0)], 30⟩, ⟨k3, [some (.int .i64 (ti (frm r1))), some (.int .i64 2), some (.int .i64 1), some (.int .i64 0), some (.int .i64 0)], 30⟩, ⟨k4, [some (.int .i64 (ti (frm r1))), some (.int .i64 2), some (.int .i64 1), some (.int .i64 4), some (.int .i64 0), some (.int .i64 1), some (.int .i64 1), some (.int .i64 1), some (.int .i64 0), some (.int .i64 0)], 30⟩, ⟨k5, [some (.int .i64 (ti (frm r1))), some (.int .i64 (ti (frm r2))), some (.int .i64 1), some (.int .i64 4), some (.int .i64 0)], 30⟩]) rfl rfl (by rfl) (fun x => (x.setCell ⟨k5, 1, none⟩ (.int .i64 (ti (frm r2))))) (by intro x hx; obtain ⟨u0, z0⟩ := hx.has 4 1 rfl (by simp); have q0 := hx.soft 4 1 rfl; go_simp; (first | done | rfl)) (fun x hx => (hx.put 4 1 (.int .i64 (ti (frm r2))) rfl)) ?_
          refine lin_done ?_
          intro W11 hx
          replace HS := hid hx
          clear hx
          -- region 15
          go_upto_region 15 with fail
          refine lin_begin (St w [⟨k1, [some (.int .i64 1), some (.int .i64 1), some (.int .i64 1), some (.int .i64 0), some (.int .i64 0)], 30⟩, ⟨k2, [some (.int .i64 (ti (frm r1))), some (.int .i64 2), some (.int .i64 1), some (.int .i64 4), some (.int .i64 0)], 30⟩, ⟨k3, [some (.int .i64 (ti (frm r1))), some (.int .i64 2), some (.int .i64 1), some (.int .i64 0), some (.int .i64 0)], 30⟩, ⟨k4, [some (.int .i64 (ti (frm r1))), some (.int .i64 2), some (.int .i64 1), some (.int .i64 4), some (.int .i64 0), some (.int .i64 1), some (.int .i64 1), some (.int .i64 1), some (.int .i64 0), some (.int .i64 0)], 30⟩, ⟨k5, [some (.int .i64 (ti (frm r1))), some (.int .i64 (ti (frm r2))), some (.int .i64 1), some (.int .i64 4), some (.int .i64 0)], 30⟩]) rfl HS.out ?_
          refine lin_val (i := 0) (v := .agg #[.int .i64 (ti (frm r1)), .int .i64 2, .int .i64 1, .int .i64 4, .int .i64 0]) rfl rfl (by rfl) (by intro x hx; have f0 := hx.load 1 0 rfl rfl; have f1 := hx.load 1 1 rfl rfl; have f2 := hx.load 1 2 rfl rfl; have f3 := hx.load 1 3 rfl rfl; have f4 := hx.load 1 4 rfl rfl; go_simp; (first | done | exact rfl)) ?_
          simp only [List.set_cons_succ, List.set_cons_zero]
          refine lin_new (i := 1) rfl rfl (by rfl) [.int .i64 0, .int .i64 0, .int .i64 0, .int .i64 0, .int .i64 0] 30 (fun k => .pointer (some ⟨k, 0, none⟩)) [some (.int .i64 0), some (.int .i64 0), some (.int .i64 0), some (.int .i64 0), some (.int .i64 0)] (lessC_refl _) (by intro x hx; go_simp; (first | done | exact rfl)) (fun k6 => ?_)
          simp only [List.set_cons_succ, List.set_cons_zero]
          refine lin_store (i := 2) (St w [⟨k1, [some (.int .i64 1), some (.int .i64 1), some (.int .i64 1), some (.int .i64 0), some (.int .i64 0)], 30⟩, ⟨k2, [some (.int .i64 (ti (frm r1))), some (.int .i64 2), some (.int .i64 1), some (.int .i64 4), some (.int .i64 0)], 30⟩, ⟨k3, [some (.int .i64 (ti (frm r1))), some (.int .i64 2), some (.int .i64 1), some (.int .i64 0), some (.int .i64 0)], 30⟩, ⟨k4, [some (.int .i64 (ti (frm r1))), some (.int .i64 2), some (.int .i64 1), some (.int .i64 4), some (.int .i64 0), some (.int .i64 1), some (.int .i64 1), some (.int .i64 1), some (.int .i64 0), some (.int .i64 0)], 30⟩, ⟨k5, [some (.int .i64 (ti (frm r1))), some (.int .i64 (ti (frm r2))), some (.int .i64 1), some (.int .i64 4), some (.int .i64 0)], 30⟩, ⟨k6, [some (.int .i64 (ti (frm r1))), some (.int .i64 2), some (.int .i64 1), some (.int .i64 4), some (.int .i64 0)], 30⟩]) rfl rfl (by rfl) (fun x => (((((x.setCell ⟨k6, 0, none⟩ (.int .i64 (ti (frm r1)))).setCell ⟨k6, 1, none⟩ (.int .i64 2)).setCell ⟨k6, 2, none⟩ (.int .i64 1)).setCell ⟨k6, 3, none⟩ (.int .i64 4)).setCell ⟨k6, 4, none⟩ (.int .i64 0))) (by intro x hx; obtain ⟨u0, z0⟩ := hx.has 5 0 rfl (by simp); have q0 := hx.soft 5 0 rfl; obtain ⟨u1, z1⟩ := hx.has 5 1 rfl (by simp); have q1 := hx.soft 5 1 rfl; obtain ⟨u2, z2⟩ := hx.has 5 2 rfl (by simp); have q2 := hx.soft 5 2 rfl; obtain ⟨u3, z3⟩ := hx.has 5 3 rfl (by simp); have q3 := hx.soft 5 3 rfl; obtain ⟨u4, z4⟩ := hx.has 5 4 rfl (by simp); have q4 := hx.soft 5 4 rfl; go_simp; (first | done | rfl)) (fun x hx => (((((hx.put 5 0 (.int .i64 (ti (frm r1))) rfl).put 5 1 (.int .i64 2) rfl).put 5 2 (.int .i64 1) rfl).put 5 3 (.int .i64 4) rfl).put 5 4 (.int .i64 0) rfl)) ?_
          refine lin_done ?_
          intro W12 hx
          replace HS := hid hx
          clear hx
          -- region 16
          go_upto_region 16 with fail
          refine lin_begin (St w [⟨k1, [some (.int .i64 1), some (.int .i64 1), some (.int .i64 1), some (.int .i64 0), some (.int .i64 0)], 30⟩, ⟨k2, [some (.int .i64 (ti (frm r1))), some (.int .i64 2), some (.int .i64 1), some (.int .i64 4), some (.int .i64 0)], 30⟩, ⟨k3, [some (.int .i64 (ti (frm r1))), some (.int .i64 2), some (.int .i64 1), some (.int .i64 0), some (.int .i64 0)], 30⟩, ⟨k4, [some (.int .i64 (ti (frm r1))), some (.int .i64 2), some (.int .i64 1), some (.int .i64 4), some (.int .i64 0), some (.int .i64 1), some (.int .i64 1), some (.int .i64 1), some (.int .i64 0), some (.int .i64 0)], 30⟩, ⟨k5, [some (.int .i64 (ti (frm r1))), some (.int .i64 (ti (frm r2))), some (.int .i64 1), some (.int .i64 4), some (.int .i64 0)], 30⟩, ⟨k6, [some (.int .i64 (ti (frm r1))), some (.int .i64 2), some (.int .i64 1), some (.int .i64 4), some (.int .i64 0)], 30⟩]) rfl HS.out ?_
          refine lin_val (i := 0) (v := .int .i64 (ti (frm r2))) rfl rfl (by rfl) (by intro x hx; go_simp; (first | done | exact rfl)) ?_
          simp only [List.set_cons_succ, List.set_cons_zero]
          refine lin_val (i := 1) (v := .pointer (some ⟨k6, 2, none⟩)) rfl rfl (by rfl) (by intro x hx; go_simp; (first | done | exact rfl)) ?_
          simp only [List.set_cons_succ, List.set_cons_zero]
          refine lin_store (i := 2) (St w [⟨k1, [some (.int .i64 1), some (.int .i64 1), some (.int .i64 1), some (.int .i64 0), some (.int .i64 0)], 30⟩, ⟨k2, [some (.int .i64 (ti (frm r1))), some (.int .i64 2), some (.int .i64 1), some (.int .i64 4), some (.int .i64 0)], 30⟩, ⟨k3, [some (.int .i64 (ti (frm r1))), some (.int .i64 2), some (.int .i64 1), some (.int .i64 0), some (.int .i64 0)], 30⟩, ⟨k4, [some (.int .i64 (ti (frm r1))), some (.int .i64 2), some (.int .i64 1), some (.int .i64 4), some (.int .i64 0), some (.int .i64 1), some (.int .i64 1), some (.int .i64 1), some (.int .i64 0), some (.int .i64 0)], 30⟩, ⟨k5, [some (.int .i64 (ti (frm r1))), some (.int .i64 (ti (frm r2))), some (.int .i64 1), some (.int .i64 4), some (.int .i64 0)], 30⟩, ⟨k6, [some (.int .i64 (ti (frm r1))), some (.int .i64 2), some (.int .i64 (ti (frm r2))), some (.int .i64 4), some (.int .i64 0)], 30⟩]) rfl rfl (by rfl) (fun x => (x.setCell ⟨k6, 2, none⟩ (.int .i64 (ti (frm r2))))) (by intro x hx; obtain ⟨u0, z0⟩ := hx.has 5 2 rfl (by simp); have q0 := hx.soft 5 2 rfl; go_simp; (first | done | rfl)) (fun x hx => (hx.put 5 2 (.int .i64 (ti (frm r2))) rfl)) ?_
          refine lin_done ?_
          intro W13 hx
          replace HS := hid hx
          clear hx
          -- region 17
          go_upto_region 17 with fail
          refine lin_begin (St w [⟨k1, [some (.int .i64 1), some (.int .i64 1), some (.int .i64 1), some (.int .i64 0), some (.int .i64 0)], 30⟩, ⟨k2, [some (.int .i64 (ti (frm r1))), some (.int .i64 2), some (.int .i64 1), some (.int .i64 4), some (.int .i64 0)], 30⟩, ⟨k3, [some (.int .i64 (ti (frm r1))), some (.int .i64 2), some (.int .i64 1), some (.int .i64 0), some (.int .i64 0)], 30⟩, ⟨k4, [some (.int .i64 (ti (frm r1))), some (.int .i64 2), some (.int .i64 1), some (.int .i64 4), some (.int .i64 0), some (.int .i64 1), some (.int .i64 1), some (.int .i64 1), some (.int .i64 0), some (.int .i64 0)], 30⟩, ⟨k5, [some (.int .i64 (ti (frm r1))), some (.int .i64 (ti (frm r2))), some (.int .i64 1), some (.int .i64 4), some (.int .i64 0)], 30⟩, ⟨k6, [some (.int .i64 (ti (frm r1))), some (.int .i64 2), some (.int .i64 (ti (frm r2))), some (.int .i64 4), some (.int .i64 0)], 30⟩]) rfl HS.out ?_
          refine lin_val (i := 0) (v := .agg #[.int .i64 (ti (frm r1)), .int .i64 2, .int .i64 1, .int .i64 4, .int .i64 0]) rfl rfl (by rfl) (by intro x hx; have f0 := hx.load 1 0 rfl rfl; have f1 := hx.load 1 1 rfl rfl; have f2 := hx.load 1 2 rfl rfl; have f3 := hx.load 1 3 rfl rfl; have f4 := hx.load 1 4 rfl rfl; go_simp; (first | done | exact rfl)) ?_
          simp only [List.set_cons_succ, List.set_cons_zero]
          refine lin_new (i := 1) rfl rfl (by rfl) [.int .i64 0, .int .i64 0, .int .i64 0, .int .i64 0, .int .i64 0] 30 (fun k => .pointer (some ⟨k, 0, none⟩)) [some (.int .i64 0), some (.int .i64 0), some (.int .i64 0), some (.int .i64 0), some (.int .i64 0)] (lessC_refl _) (by intro x hx; go_simp; (first | done | exact rfl)) (fun k7 => ?_)
          simp only [List.set_cons_succ, List.set_cons_zero]
          refine lin_store (i := 2) (St w [⟨k1, [some (.int .i64 1), some (.int .i64 1), some (.int .i64 1), some (.int .i64 0), some (.int .i64 0)], 30⟩, ⟨k2, [some (.int .i64 (ti (frm r1))), some (.int .i64 2), some (.int .i64 1), some (.int .i64 4), some (.int .i64 0)], 30⟩, ⟨k3, [some (.int .i64 (ti (frm r1))), some (.int .i64 2), some (.int .i64 1), some (.int .i64 0), some (.int .i64 0)], 30⟩, ⟨k4, [some (.int .i64 (ti (frm r1))), some (.int .i64 2), some (.int .i64 1), some (.int .i64 4), some (.int .i64 0), some (.int .i64 1), some (.int .i64 1), some (.int .i64 1), some (.int .i64 0), some (.int .i64 0)], 30⟩, ⟨k5, [some (.int .i64 (ti (frm r1))), some (.int .i64 (ti (frm r2))), some (.int .i64 1), some (.int .i64 4), some (.int .i64 0)], 30⟩, ⟨k6, [some (.int .i64 (ti (frm r1))), some (.int .i64 2), some (.int .i64 (ti (frm r2))), some (.int .i64 4), some (.int .i64 0)], 30⟩, ⟨k7, [some (.int .i64 (ti (frm r1))), some (.int .i64 2), some (.int .i64 1), some (.int .i64 4), some (.int .i64 0)], 30⟩]) rfl rfl (by rfl) (fun x => (((((x.setCell ⟨k7, 0, none⟩ (.int .i64 (ti (frm r1)))).setCell ⟨k7, 1, none⟩ (.int .i64 2)).setCell ⟨k7, 2, none⟩ (.int .i64 1)).setCell ⟨k7, 3, none⟩ (.int .i64 4)).setCell ⟨k7, 4, none⟩ (.int .i64 0))) (by intro x hx; obtain ⟨u0, z0⟩ := hx.has 6 0 rfl (by simp); have q0 := hx.soft 6 0 rfl; obtain ⟨u1, z1⟩ := hx.has 6 1 rfl (by simp); have q1 := hx.soft 6 1 rfl; obtain ⟨u2, z2⟩ := hx.has 6 2 rfl (by simp); have q2 := hx.soft 6 2 rfl; obtain ⟨u3, z3⟩ := hx.has 6 3 rfl (by simp); have q3 := hx.soft 6 3 rfl; obtain ⟨u4, z4⟩ := hx.has 6 4 rfl (by simp); have q4 := hx.soft 6 4 rfl; go_simp; (first | done | rfl)) (fun x hx => (((((hx.put 6 0 (.int .i64 (ti (frm r1))) rfl).put 6 1 (.int .i64 2) rfl).put 6 2 (.int .i64 1) rfl).put 6 3 (.int .i64 4) rfl).put 6 4 (.int .i64 0) rfl)) ?_
          refine lin_done ?_
          intro W14 hx
          replace HS := hid hx
          clear hx
          -- region 18
          go_upto_region 18 with fail
          refine lin_begin (St w [⟨k1, [some (.int .i64 1), some (.int .i64 1), some (.int .i64 1), some (.int .i64 0), some (.int .i64 0)], 30⟩, ⟨k2, [some (.int .i64 (ti (frm r1))), some (.int .i64 2), some (.int .i64 1), some (.int .i64 4), some (.int .i64 0)], 30⟩, ⟨k3, [some (.int .i64 (ti (frm r1))), some (.int .i64 2), some (.int .i64 1), some (.int .i64 0), some (.int .i64 0)], 30⟩, ⟨k4, [some (.int .i64 (ti (frm r1))), some (.int .i64 2), some (.int .i64 1), some (.int .i64 4), some (.int .i64 0), some (.int .i64 1), some (.int .i64 1), some (.int .i64 1), some (.int .i64 0), some (.int .i64 0)], 30⟩, ⟨k5, [some (.int .i64 (ti (frm r1))), some (.int .i64 (ti (frm r2))), some (.int .i64 1), some (.int .i64 4), some (.int .i64 0)], 30⟩, ⟨k6, [some (.int .i64 (ti (frm r1))), some (.int .i64 2), some (.int .i64 (ti (frm r2))), some (.int .i64 4), some (.int .i64 0)], 30⟩, ⟨k7, [some (.int .i64 (ti (frm r1))), some (.int .i64 2), some (.int .i64 1), some (.int .i64 4), some (.int .i64 0)], 30⟩]) rfl HS.out ?_
          refine lin_val (i := 0) (v := .int .i64 (ti (frm r2))) rfl rfl (by rfl) (by intro x hx; go_simp; (first | done | exact rfl)) ?_
          simp only [List.set_cons_succ, List.set_cons_zero]
          refine lin_val (i := 1) (v := .pointer (some ⟨k7, 3, none⟩)) rfl rfl (by rfl) (by intro x hx; go_simp; (first | done | exact rfl)) ?_
          simp only [List.set_cons_succ, List.set_cons_zero]
          refine lin_store (i := 2) (St w [⟨k1, [some (.int .i64 1), some (.int .i64 1), some (.int .i64 1), some (.int .i64 0), some (.int .i64 0)], 30⟩, ⟨k2, [some (.int .i64 (ti (frm r1))), some (.int .i64 2), some (.int .i64 1), some (.int .i64 4), some (.int .i64 0)], 30⟩, ⟨k3, [some (.int .i64 (ti (frm r1))), some (.int .i64 2), some (.int .i64 1), some (.int .i64 0), some (.int .i64 0)], 30⟩, ⟨k4, [some (.int .i64 (ti (frm r1))), some (.int .i64 2), some (.int .i64 1), some (.int .i64 4), some (.int .i64 0), some (.int .i64 1), some (.int .i64 1), some (.int .i64 1), some (.int .i64 0), some (.int .i64 0)], 30⟩, ⟨k5, [some (.int .i64 (ti (frm r1))), some (.int .i64 (ti (frm r2))), some (.int .i64 1), some (.int .i64 4), some (.int .i64 0)], 30⟩, ⟨k6, [some (.int .i64 (ti (frm r1))), some (.int .i64 2), some (.int .i64 (ti (frm r2))), some (.int .i64 4), some (.int .i64 0)], 30⟩, ⟨k7, [some (.int .i64 (ti (frm r1))), some (.int .i64 2), some (.int .i64 1), some (.int .i64 (ti (frm r2))), some (.int .i64 0)], 30⟩]) rfl rfl (by rfl) (fun x => (x.setCell ⟨k7, 3, none⟩ (.int .i64 (ti (frm r2))))) (by intro x hx; obtain ⟨u0, z0⟩ := hx.has 6 3 rfl (by simp); have q0 := hx.soft 6 3 rfl; go_simp; (first | done | rfl)) (fun x hx => (hx.put 6 3 (.int .i64 (ti (frm r2))) rfl)) ?_
          refine lin_done ?_
          intro W15 hx
          replace HS := hid hx
          clear hx
          -- region 19
          go_upto_region 19 with fail
          refine lin_begin (St w [⟨k1, [some (.int .i64 1), some (.int .i64 1), some (.int .i64 1), some (.int .i64 0), some (.int .i64 0)], 30⟩, ⟨k2, [some (.int .i64 (ti (frm r1))), some (.int .i64 2), some (.int .i64 1), some (.int .i64 4), some (.int .i64 0)], 30⟩, ⟨k3, [some (.int .i64 (ti (frm r1))), some (.int .i64 2), some (.int .i64 1), some (.int .i64 0), some (.int .i64 0)], 30⟩, ⟨k4, [some (.int .i64 (ti (frm r1))), some (.int .i64 2), some (.int .i64 1), some (.int .i64 4), some (.int .i64 0), some (.int .i64 1), some (.int .i64 1), some (.int .i64 1), some (.int .i64 0), some (.int .i64 0)], 30⟩, ⟨k5, [some (.int .i64 (ti (frm r1))), some (.int .i64 (ti (frm r2))), some (.int .i64 1), some (.int .i64 4), some (.int .i64 0)], 30⟩, ⟨k6, [some (.int .i64 (ti (frm r1))), some (.int .i64 2), some (.int .i64 (ti (frm r2))), some (.int .i64 4), some (.int .i64 0)], 30⟩, ⟨k7, [some (.int .i64 (ti (frm r1))), some (.int .i64 2), some (.int .i64 1), some (.int .i64 (ti (frm r2))), some (.int .i64 0)], 30⟩]) rfl HS.out ?_
          refine lin_val (i := 0) (v := .agg #[.int .i64 (ti (frm r1)), .int .i64 2, .int .i64 1, .int .i64 4, .int .i64 0]) rfl rfl (by rfl) (by intro x hx; have f0 := hx.load 1 0 rfl rfl; have f1 := hx.load 1 1 rfl rfl; have f2 := hx.load 1 2 rfl rfl; have f3 := hx.load 1 3 rfl rfl; have f4 := hx.load 1 4 rfl rfl; go_simp; (first | done | exact rfl)) ?_
          simp only [List.set_cons_succ, List.set_cons_zero]
          refine lin_new (i := 1) rfl rfl (by rfl) [.int .i64 0, .int .i64 0, .int .i64 0, .int .i64 0, .int .i64 0] 30 (fun k => .pointer (some ⟨k, 0, none⟩)) [some (.int .i64 0), some (.int .i64 0), some (.int .i64 0), some (.int .i64 0), some (.int .i64 0)] (lessC_refl _) (by intro x hx; go_simp; (first | done | exact rfl)) (fun k8 => ?_)
          simp only [List.set_cons_succ, List.set_cons_zero]
          refine lin_store (i := 2) (St w [⟨k1, [some (.int .i64 1), some (.int .i64 1), some (.int .i64 1), some (.int .i64 0), some (.int .i64 0)], 30⟩, ⟨k2, [some (.int .i64 (ti (frm r1))), some (.int .i64 2), some (.int .i64 1), some (.int .i64 4), some (.int .i64 0)], 30⟩, ⟨k3, [some (.int .i64 (ti (frm r1))), some (.int .i64 2), some (.int .i64 1), some (.int .i64 0), some (.int .i64 0)], 30⟩, ⟨k4, [some (.int .i64 (ti (frm r1))), some (.int .i64 2), some (.int .i64 1), some (.int .i64 4), some (.int .i64 0), some (.int .i64 1), some (.int .i64 1), some (.int .i64 1), some (.int .i64 0), some (.int .i64 0)], 30⟩, ⟨k5, [some (.int .i64 (ti (frm r1))), some (.int .i64 (ti (frm r2))), some (.int .i64 1), some (.int .i64 4), some (.int .i64 0)], 30⟩, ⟨k6, [some (.int .i64 (ti (frm r1))), some (.int .i64 2), some (.int .i64 (ti (frm r2))), some (.int .i64 4), some (.int .i64 0)], 30⟩, ⟨k7, [some (.int .i64 (ti (frm r1))), some (.int .i64 2), some (.int .i64 1), some (.int .i64 (ti (frm r2))), some (.int .i64 0)], 30⟩, ⟨k8, [some (.int .i64 (ti (frm r1))), some (.int .i64 2), some (.int .i64 1), some (.int .i64 4), some (.int .i64 0)], 30⟩]) rfl rfl (by rfl) (fun x => (((((x.setCell ⟨k8, 0, none⟩ (.int .i64 (ti (frm r1)))).setCell ⟨k8, 1, none⟩ (.int .i64 2)).setCell ⟨k8, 2, none⟩ (.int .i64 1)).setCell ⟨k8, 3, none⟩ (.int .i64 4)).setCell ⟨k8, 4, none⟩ (.int .i64 0))) (by intro x hx; obtain ⟨u0, z0⟩ := hx.has 7 0 rfl (by simp); have q0 := hx.soft 7 0 rfl; obtain ⟨u1, z1⟩ := hx.has 7 1 rfl (by simp); have q1 := hx.soft 7 1 rfl; obtain ⟨u2, z2⟩ := hx.has 7 2 rfl (by simp); have q2 := hx.soft 7 2 rfl; obtain ⟨u3, z3⟩ := hx.has 7 3 rfl (by simp); have q3 := hx.soft 7 3 rfl; obtain ⟨u4, z4⟩ := hx.has 7 4 rfl (by simp); have q4 := hx.soft 7 4 rfl; go_simp; (first | done | rfl)) (fun x hx => (((((hx.put 7 0 (.int .i64 (ti (frm r1))) rfl).put 7 1 (.int .i64 2) rfl).put 7 2 (.int .i64 1) rfl).put 7 3 (.int .i64 4) rfl).put 7 4 (.int .i64 0) rfl)) ?_
          refine lin_done ?_
          intro W16 hx
          replace HS := hid hx
          clear hx
          -- region 20
          go_upto_region 20 with fail
          refine lin_begin (St w [⟨k1, [some (.int .i64 1), some (.int .i64 1), some (.int .i64 1), some (.int .i64 0), some (.int .i64 0)], 30⟩, ⟨k2, [some (.int .i64 (ti (frm r1))), some (.int .i64 2), some (.int .i64 1), some (.int .i64 4), some (.int .i64 0)], 30⟩, ⟨k3, [some (.int .i64 (ti (frm r1))), some (.int .i64 2), some (.int .i64 1), some (.int .i64 0), some (.int .i64 0)], 30⟩, ⟨k4, [some (.int .i64 (ti (frm r1))), some (.int .i64 2), some (.int .i64 1), some (.int .i64 4), some (.int .i64 0), some (.int .i64 1), some (.int .i64 1), some (.int .i64 1), some (.int .i64 0), some (.int .i64 0)], 30⟩, ⟨k5, [some (.int .i64 (ti (frm r1))), some (.int .i64 (ti (frm r2))), some (.int .i64 1), some (.int .i64 4), some (.int .i64 0)], 30⟩, ⟨k6, [some (.int .i64 (ti (frm r1))), some (.int .i64 2), some (.int .i64 (ti (frm r2))), some (.int .i64 4), some (.int .i64 0)], 30⟩, ⟨k7, [some (.int .i64 (ti (frm r1))), some (.int .i64 2), some (.int .i64 1), some (.int .i64 (ti (frm r2))), some (.int .i64 0)], 30⟩, ⟨k8, [some (.int .i64 (ti (frm r1))), some (.int .i64 2), some (.int .i64 1), some (.int .i64 4), some (.int .i64 0)], 30⟩]) rfl HS.out ?_
          refine lin_val (i := 0) (v := .int .i64 (ti (frm r2))) rfl rfl (by rfl) (by intro x hx; go_simp; (first | done | exact rfl)) ?_
          simp only [List.set_cons_succ, List.set_cons_zero]
          refine lin_val (i := 1) (v := .pointer (some ⟨k8, 4, none⟩)) rfl rfl (by rfl) (by intro x hx; go_simp; (first | done | exact rfl)) ?_
          simp only [List.set_cons_succ, List.set_cons_zero]
          refine lin_store (i := 2) (St w [⟨k1, [some (.int .i64 1), some (.int .i64 1), some (.int .i64 1), some (.int .i64 0), some (.int .i64 0)], 30⟩, ⟨k2, [some (.int .i64 (ti (frm r1))), some (.int .i64 2), some (.int .i64 1), some (.int .i64 4), some (.int .i64 0)], 30⟩, ⟨k3, [some (.int .i64 (ti (frm r1))), some (.int .i64 2), some (.int .i64 1), some (.int .i64 0), some (.int .i64 0)], 30⟩, ⟨k4, [some (.int .i64 (ti (frm r1))), some (.int .i64 2), some (.int .i64 1), some (.int .i64 4), some (.int .i64 0), some (.int .i64 1), some (.int .i64 1), some (.int .i64 1), some (.int .i64 0), some (.int .i64 0)], 30⟩, ⟨k5, [some (.int .i64 (ti (frm r1))), some (.int .i64 (ti (frm r2))), some (.int .i64 1), some (.int .i64 4), some (.int .i64 0)], 30⟩, ⟨k6, [some (.int .i64 (ti (frm r1))), some (.int .i64 2), some (.int .i64 (ti (frm r2))), some (.int .i64 4), some (.int .i64 0)], 30⟩, ⟨k7, [some (.int .i64 (ti (frm r1))), some (.int .i64 2), some (.int .i64 1), some (.int .i64 (ti (frm r2))), some (.int .i64 0)], 30⟩, ⟨k8, [some (.int .i64 (ti (frm r1))), some (.int .i64 2), some (.int .i64 1), some (.int .i64 4), some (.int .i64 (ti (frm r2)))], 30⟩]) rfl rfl (by rfl) (fun x => (x.setCell ⟨k8, 4, none⟩ (.int .i64 (ti (frm r2))))) (by intro x hx; obtain ⟨u0, z0⟩ := hx.has 7 4 rfl (by simp); have q0 := hx.soft 7 4 rfl; go_simp; (first | done | rfl)) (fun x hx => (hx.put 7 4 (.int .i64 (ti (frm r2))) rfl)) ?_
          refine lin_done ?_
          intro W17 hx
          replace HS := hid hx
          clear hx
          -- region 21
          go_upto_region 21 with fail
          refine lin_begin (St w [⟨k1, [some (.int .i64 1), some (.int .i64 1), some (.int .i64 1), some (.int .i64 0), some (.int .i64 0)], 30⟩, ⟨k2, [some (.int .i64 (ti (frm r1))), some (.int .i64 2), some (.int .i64 1), some (.int .i64 4), some (.int .i64 0)], 30⟩, ⟨k3, [some (.int .i64 (ti (frm r1))), some (.int .i64 2), some (.int .i64 1), some (.int .i64 0), some (.int .i64 0)], 30⟩, ⟨k4, [some (.int .i64 (ti (frm r1))), some (.int .i64 2), some (.int .i64 1), some (.int .i64 4), some (.int .i64 0), some (.int .i64 1), some (.int .i64 1), some (.int .i64 1), some (.int .i64 0), some (.int .i64 0)], 30⟩, ⟨k5, [some (.int .i64 (ti (frm r1))), some (.int .i64 (ti (frm r2))), some (.int .i64 1), some (.int .i64 4), some (.int .i64 0)], 30⟩, ⟨k6, [some (.int .i64 (ti (frm r1))), some (.int .i64 2), some (.int .i64 (ti (frm r2))), some (.int .i64 4), some (.int .i64 0)], 30⟩, ⟨k7, [some (.int .i64 (ti (frm r1))), some (.int .i64 2), some (.int .i64 1), some (.int .i64 (ti (frm r2))), some (.int .i64 0)], 30⟩, ⟨k8, [some (.int .i64 (ti (frm r1))), some (.int .i64 2), some (.int .i64 1), some (.int .i64 4), some (.int .i64 (ti (frm r2)))], 30⟩]) rfl HS.out ?_
          refine lin_val (i := 0) (v := .agg #[.int .i64 (ti (frm r1)), .int .i64 2, .int .i64 1, .int .i64 4, .int .i64 0]) rfl rfl (by rfl) (by intro x hx; have f0 := hx.load 1 0 rfl rfl; have f1 := hx.load 1 1 rfl rfl; have f2 := hx.load 1 2 rfl rfl; have f3 := hx.load 1 3 rfl rfl; have f4 := hx.load 1 4 rfl rfl; go_simp; (first | done | exact rfl)) ?_
          simp only [List.set_cons_succ, List.set_cons_zero]
          refine lin_val (i := 1) (v := .agg #[.int .i64 1, .int .i64 1, .int .i64 1, .int .i64 0, .int .i64 0]) rfl rfl (by rfl) (by intro x hx; have f0 := hx.load 0 0 rfl rfl; have f1 := hx.load 0 1 rfl rfl; have f2 := hx.load 0 2 rfl rfl; have f3 := hx.load 0 3 rfl rfl; have f4 := hx.load 0 4 rfl rfl; go_simp; (first | done | exact rfl)) ?_
          simp only [List.set_cons_succ, List.set_cons_zero]
          refine lin_new (i := 2) rfl rfl (by rfl) [.int .i64 (ti (frm r1)), .int .i64 2, .int .i64 1, .int .i64 4, .int .i64 0, .int .i64 1, .int .i64 1, .int .i64 1, .int .i64 0, .int .i64 0] 30 (fun k => .slice (some ⟨k, 0, none⟩) 2 2) [some (.int .i64 (ti (frm r1))), some (.int .i64 2), some (.int .i64 1), some (.int .i64 4), some (.int .i64 0), some (.int .i64 1), some (.int .i64 1), some (.int .i64 1), some (.int .i64 0), some (.int .i64 0)] (lessC_refl _) (by intro x hx; go_simp; (first | done | exact rfl)) (fun k9 => ?_)
          simp only [List.set_cons_succ, List.set_cons_zero]
          refine lin_call (i := 3) (f := 3) (args := #[.slice (some ⟨k9, 0, none⟩) 2 2]) (v := .bool true) (st_ups _ _) rfl rfl (by rfl) (fun x hx => by kernel_rfl) (by intro x hx; exact declChecks_any _ 2 2 [Dc.mk (frm r1) 2#64 1#64 4#64 0#64, Dc.mk 1#64 1#64 1#64 0#64 0#64] x (arg_st hx 8 rfl [Dc.mk (frm r1) 2#64 1#64 4#64 0#64, Dc.mk 1#64 1#64 1#64 0#64 0#64] (by rfl)) (by omega) (HT.out.up hx.below)) ?_
          simp only [List.set_cons_succ, List.set_cons_zero]
          refine lin_val (i := 4) (v := .bool false) rfl rfl (by rfl) (by intro x hx; go_simp; (first | done | exact rfl)) ?_
          simp only [List.set_cons_succ, List.set_cons_zero]
          refine lin_val (i := 5) (v := .bool false) rfl rfl (by rfl) (by intro x hx; go_simp; (first | done | exact rfl)) ?_
          simp only [List.set_cons_succ, List.set_cons_zero]
          refine lin_val (i := 6) (v := .agg #[.int .i64 (ti (frm r1)), .int .i64 (ti (frm r2)), .int .i64 1, .int .i64 4, .int .i64 0]) rfl rfl (by rfl) (by intro x hx; have f0 := hx.load 4 0 rfl rfl; have f1 := hx.load 4 1 rfl rfl; have f2 := hx.load 4 2 rfl rfl; have f3 := hx.load 4 3 rfl rfl; have f4 := hx.load 4 4 rfl rfl; go_simp; (first | done | exact rfl)) ?_
          simp only [List.set_cons_succ, List.set_cons_zero]
          refine lin_val (i := 7) (v := .agg #[.int .i64 1, .int .i64 1, .int .i64 1, .int .i64 0, .int .i64 0]) rfl rfl (by rfl) (by intro x hx; have f0 := hx.load 0 0 rfl rfl; have f1 := hx.load 0 1 rfl rfl; have f2 := hx.load 0 2 rfl rfl; have f3 := hx.load 0 3 rfl rfl; have f4 := hx.load 0 4 rfl rfl; go_simp; (first | done | exact rfl)) ?_
          simp only [List.set_cons_succ, List.set_cons_zero]
          refine lin_new (i := 8) rfl rfl (by rfl) [.int .i64 (ti (frm r1)), .int .i64 (ti (frm r2)), .int .i64 1, .int .i64 4, .int .i64 0, .int .i64 1, .int .i64 1, .int .i64 1, .int .i64 0, .int .i64 0] 30 (fun k => .slice (some ⟨k, 0, none⟩) 2 2) [some (.int .i64 (ti (frm r1))), some (.int .i64 (ti (frm r2))), some (.int .i64 1), some (.int .i64 4), some (.int .i64 0), some (.int .i64 1), some (.int .i64 1), some (.int .i64 1), some (.int .i64 0), some (.int .i64 0)] (lessC_refl _) (by intro x hx; go_simp; (first | done | exact rfl)) (fun k10 => ?_)
          simp only [List.set_cons_succ, List.set_cons_zero]
          refine lin_call (i := 9) (f := 3) (args := #[.slice (some ⟨k10, 0, none⟩) 2 2]) (v := .bool true) (st_ups _ _) rfl rfl (by rfl) (fun x hx => by kernel_rfl) (by intro x hx; exact declChecks_any _ 2 2 [Dc.mk (frm r1) (frm r2) 1#64 4#64 0#64, Dc.mk 1#64 1#64 1#64 0#64 0#64] x (arg_st hx 9 rfl [Dc.mk (frm r1) (frm r2) 1#64 4#64 0#64, Dc.mk 1#64 1#64 1#64 0#64 0#64] (by rfl)) (by omega) (HT.out.up hx.below)) ?_
          simp only [List.set_cons_succ, List.set_cons_zero]
          refine lin_val (i := 10) (v := .bool false) rfl rfl (by rfl) (by intro x hx; go_simp; (first | done | exact rfl)) ?_
          simp only [List.set_cons_succ, List.set_cons_zero]
          refine lin_val (i := 11) (v := .bool false) rfl rfl (by rfl) (by intro x hx; go_simp; (first | done | exact rfl)) ?_
          simp only [List.set_cons_succ, List.set_cons_zero]
          refine lin_val (i := 12) (v := .bool false) rfl rfl (by rfl) (by intro x hx; go_simp; (first | done | exact rfl)) ?_
          simp only [List.set_cons_succ, List.set_cons_zero]
          refine lin_val (i := 13) (v := .agg #[.int .i64 (ti (frm r1)), .int .i64 2, .int .i64 (ti (frm r2)), .int .i64 4, .int .i64 0]) rfl rfl (by rfl) (by intro x hx; have f0 := hx.load 5 0 rfl rfl; have f1 := hx.load 5 1 rfl rfl; have f2 := hx.load 5 2 rfl rfl; have f3 := hx.load 5 3 rfl rfl; have f4 := hx.load 5 4 rfl rfl; go_simp; (first | done | exact rfl)) ?_
          simp only [List.set_cons_succ, List.set_cons_zero]
          refine lin_val (i := 14) (v := .agg #[.int .i64 1, .int .i64 1, .int .i64 1, .int .i64 0, .int .i64 0]) rfl rfl (by rfl) (by intro x hx; have f0 := hx.load 0 0 rfl rfl; have f1 := hx.load 0 1 rfl rfl; have f2 := hx.load 0 2 rfl rfl; have f3 := hx.load 0 3 rfl rfl; have f4 := hx.load 0 4 rfl rfl; go_simp; (first | done | exact rfl)) ?_
          simp only [List.set_cons_succ, List.set_cons_zero]
          refine lin_new (i := 15) rfl rfl (by rfl) [.int .i64 (ti (frm r1)), .int .i64 2, .int .i64 (ti (frm r2)), .int .i64 4, .int .i64 0, .int .i64 1, .int .i64 1, .int .i64 1, .int .i64 0, .int .i64 0] 30 (fun k => .slice (some ⟨k, 0, none⟩) 2 2) [some (.int .i64 (ti (frm r1))), some (.int .i64 2), some (.int .i64 (ti (frm r2))), some (.int .i64 4), some (.int .i64 0), some (.int .i64 1), some (.int .i64 1), some (.int .i64 1), some (.int .i64 0), some (.int .i64 0)] (lessC_refl _) (by intro x hx; go_simp; (first | done | exact rfl)) (fun k11 => ?_)
          simp only [List.set_cons_succ, List.set_cons_zero]
          refine lin_call (i := 16) (f := 3) (args := #[.slice (some ⟨k11, 0, none⟩) 2 2]) (v := .bool true) (st_ups _ _) rfl rfl (by rfl) (fun x hx => by kernel_rfl) (by intro x hx; exact declChecks_any _ 2 2 [Dc.mk (frm r1) 2#64 (frm r2) 4#64 0#64, Dc.mk 1#64 1#64 1#64 0#64 0#64] x (arg_st hx 10 rfl [Dc.mk (frm r1) 2#64 (frm r2) 4#64 0#64, Dc.mk 1#64 1#64 1#64 0#64 0#64] (by rfl)) (by omega) (HT.out.up hx.below)) ?_
          simp only [List.set_cons_succ, List.set_cons_zero]
          refine lin_val (i := 17) (v := .bool false) rfl rfl (by rfl) (by intro x hx; go_simp; (first | done | exact rfl)) ?_
          simp only [List.set_cons_succ, List.set_cons_zero]
          refine lin_val (i := 18) (v := .bool false) rfl rfl (by rfl) (by intro x hx; go_simp; (first | done | exact rfl)) ?_
          simp only [List.set_cons_succ, List.set_cons_zero]
          refine lin_val (i := 19) (v := .bool false) rfl rfl (by rfl) (by intro x hx; go_simp; (first | done | exact rfl)) ?_
          simp only [List.set_cons_succ, List.set_cons_zero]
          refine lin_val (i := 20) (v := .agg #[.int .i64 (ti (frm r1)), .int .i64 2, .int .i64 1, .int .i64 (ti (frm r2)), .int .i64 0]) rfl rfl (by rfl) (by intro x hx; have f0 := hx.load 6 0 rfl rfl; have f1 := hx.load 6 1 rfl rfl; have f2 := hx.load 6 2 rfl rfl; have f3 := hx.load 6 3 rfl rfl; have f4 := hx.load 6 4 rfl rfl; go_simp; (first | done | exact rfl)) ?_
          simp only [List.set_cons_succ, List.set_cons_zero]
          refine lin_val (i := 21) (v := .agg #[.int .i64 1, .int .i64 1, .int .i64 1, .int .i64 0, .int .i64 0]) rfl rfl (by rfl) (by intro x hx; have f0 := hx.load 0 0 rfl rfl; have f1 := hx.load 0 1 rfl rfl; have f2 := hx.load 0 2 rfl rfl; have f3 := hx.load 0 3 rfl rfl; have f4 := hx.load 0 4 rfl rfl; go_simp; (first | done | exact rfl)) ?_
          simp only [List.set_cons_succ, List.set_cons_zero]
          refine lin_new (i := 22) rfl rfl (by rfl) [.int .i64 (ti (frm r1)), .int .i64 2, .int .i64 1, .int .i64 (ti (frm r2)), .int .i64 0, .int .i64 1, .int .i64 1, .int .i64 1, .int .i64 0, .int .i64 0] 30 (fun k => .slice (some ⟨k, 0, none⟩) 2 2) [some (.int .i64 (ti (frm r1))), some (.int .i64 2), some (.int .i64 1), some (.int .i64 (ti (frm r2))), some (.int .i64 0), some (.int .i64 1), some (.int .i64 1), some (.int .i64 1), some (.int .i64 0), some (.int .i64 0)] (lessC_refl _) (by intro x hx; go_simp; (first | done | exact rfl)) (fun k12 => ?_)
          simp only [List.set_cons_succ, List.set_cons_zero]
          refine lin_call (i := 23) (f := 3) (args := #[.slice (some ⟨k12, 0, none⟩) 2 2]) (v := .bool true) (st_ups _ _) rfl rfl (by rfl) (fun x hx => by kernel_rfl) (by intro x hx; exact declChecks_any _ 2 2 [Dc.mk (frm r1) 2#64 1#64 (frm r2) 0#64, Dc.mk 1#64 1#64 1#64 0#64 0#64] x (arg_st hx 11 rfl [Dc.mk (frm r1) 2#64 1#64 (frm r2) 0#64, Dc.mk 1#64 1#64 1#64 0#64 0#64] (by rfl)) (by omega) (HT.out.up hx.below)) ?_
          simp only [List.set_cons_succ, List.set_cons_zero]
          refine lin_val (i := 24) (v := .bool false) rfl rfl (by rfl) (by intro x hx; go_simp; (first | done | exact rfl)) ?_
          simp only [List.set_cons_succ, List.set_cons_zero]
          refine lin_val (i := 25) (v := .bool false) rfl rfl (by rfl) (by intro x hx; go_simp; (first | done | exact rfl)) ?_
          simp only [List.set_cons_succ, List.set_cons_zero]
          refine lin_val (i := 26) (v := .bool false) rfl rfl (by rfl) (by intro x hx; go_simp; (first | done | exact rfl)) ?_
          simp only [List.set_cons_succ, List.set_cons_zero]
          refine lin_val (i := 27) (v := .agg #[.int .i64 (ti (frm r1)), .int .i64 2, .int .i64 1, .int .i64 4, .int .i64 (ti (frm r2))]) rfl rfl (by rfl) (by intro x hx; have f0 := hx.load 7 0 rfl rfl; have f1 := hx.load 7 1 rfl rfl; have f2 := hx.load 7 2 rfl rfl; have f3 := hx.load 7 3 rfl rfl; have f4 := hx.load 7 4 rfl rfl; go_simp; (first | done | exact rfl)) ?_
          simp only [List.set_cons_succ, List.set_cons_zero]
          refine lin_val (i := 28) (v := .agg #[.int .i64 1, .int .i64 1, .int .i64 1, .int .i64 0, .int .i64 0]) rfl rfl (by rfl) (by intro x hx; have f0 := hx.load 0 0 rfl rfl; have f1 := hx.load 0 1 rfl rfl; have f2 := hx.load 0 2 rfl rfl; have f3 := hx.load 0 3 rfl rfl; have f4 := hx.load 0 4 rfl rfl; go_simp; (first | done | exact rfl)) ?_
          simp only [List.set_cons_succ, List.set_cons_zero]
          refine lin_new (i := 29) rfl rfl (by rfl) [.int .i64 (ti (frm r1)), .int .i64 2, .int .i64 1, .int .i64 4, .int .i64 (ti (frm r2)), .int .i64 1, .int .i64 1, .int .i64 1, .int .i64 0, .int .i64 0] 30 (fun k => .slice (some ⟨k, 0, none⟩) 2 2) [some (.int .i64 (ti (frm r1))), some (.int .i64 2), some (.int .i64 1), some (.int .i64 4), some (.int .i64 (ti (frm r2))), some (.int .i64 1), some (.int .i64 1), some (.int .i64 1), some (.int .i64 0), some (.int .i64 0)] (lessC_refl _) (by intro x hx; go_simp; (first | done | exact rfl)) (fun k13 => ?_)
          simp only [List.set_cons_succ, List.set_cons_zero]
          refine lin_call (i := 30) (f := 3) (args := #[.slice (some ⟨k13, 0, none⟩) 2 2]) (v := .bool true) (st_ups _ _) rfl rfl (by rfl) (fun x hx => by kernel_rfl) (by intro x hx; exact declChecks_any _ 2 2 [Dc.mk (frm r1) 2#64 1#64 4#64 (frm r2), Dc.mk 1#64 1#64 1#64 0#64 0#64] x (arg_st hx 12 rfl [Dc.mk (frm r1) 2#64 1#64 4#64 (frm r2), Dc.mk 1#64 1#64 1#64 0#64 0#64] (by rfl)) (by omega) (HT.out.up hx.below)) ?_
          simp only [List.set_cons_succ, List.set_cons_zero]
          refine lin_val (i := 31) (v := .bool false) rfl rfl (by rfl) (by intro x hx; go_simp; (first | done | exact rfl)) ?_
          simp only [List.set_cons_succ, List.set_cons_zero]
          refine lin_val (i := 32) (v := .bool false) rfl rfl (by rfl) (by intro x hx; go_simp; (first | done | exact rfl)) ?_
          simp only [List.set_cons_succ, List.set_cons_zero]
          refine lin_val (i := 33) (v := .bool false) rfl rfl (by rfl) (by intro x hx; go_simp; (first | done | exact rfl)) ?_
          simp only [List.set_cons_succ, List.set_cons_zero]
          refine lin_val (i := 34) (v := .agg #[.int .i64 (ti (frm r1)), .int .i64 2, .int .i64 1, .int .i64 4, .int .i64 0]) rfl rfl (by rfl) (by intro x hx; have f0 := hx.load 1 0 rfl rfl; have f1 := hx.load 1 1 rfl rfl; have f2 := hx.load 1 2 rfl rfl; have f3 := hx.load 1 3 rfl rfl; have f4 := hx.load 1 4 rfl rfl; go_simp; (first | done | exact rfl)) ?_
          simp only [List.set_cons_succ, List.set_cons_zero]
          refine lin_val (i := 35) (v := .agg #[.int .i64 (ti (frm r1)), .int .i64 2, .int .i64 1, .int .i64 4, .int .i64 (ti (frm r2))]) rfl rfl (by rfl) (by intro x hx; have f0 := hx.load 7 0 rfl rfl; have f1 := hx.load 7 1 rfl rfl; have f2 := hx.load 7 2 rfl rfl; have f3 := hx.load 7 3 rfl rfl; have f4 := hx.load 7 4 rfl rfl; go_simp; (first | done | exact rfl)) ?_
          simp only [List.set_cons_succ, List.set_cons_zero]
          refine lin_val (i := 36) (v := .int .i64 (ti (frm r2))) rfl rfl (by rfl) (by intro x hx; go_simp; (first | done | exact rfl)) ?_
          simp only [List.set_cons_succ, List.set_cons_zero]
          refine lin_val (i := 37) (v := .int .u64 (tn (frm r2))) rfl rfl (by rfl) (by intro x hx; go_simp; (first | done | exact backI (frm r2) | exact congrArg _ (backI (frm r2)) | (rw [backI (frm r2)]; done) | (rw [backI (frm r2)]; rfl))) ?_
          simp only [List.set_cons_succ, List.set_cons_zero]
          refine lin_val (i := 38) (v := .int .i64 (ti (frm r2))) rfl rfl (by rfl) (by intro x hx; go_simp; (first | done | exact rfl)) ?_
          simp only [List.set_cons_succ, List.set_cons_zero]
          refine lin_call (i := 39) (f := 4) (args := #[.agg #[.int .i64 (ti (frm r1)), .int .i64 (ti (2#64)), .int .i64 (ti (1#64)), .int .i64 (ti (4#64)), .int .i64 (ti (0#64))], .agg #[.int .i64 (ti (frm r1)), .int .i64 (ti (2#64)), .int .i64 (ti (1#64)), .int .i64 (ti (4#64)), .int .i64 (ti (frm r2))], .int .u64 (tn (frm r2)), .int .u64 (tn (5#64)), .int .i64 (ti (frm r2))]) (v := .bool true) (st_ups _ _) rfl rfl (by rfl) (fun x hx => by kernel_rfl) (by intro x hx; exact declTells (Dc.mk (frm r1) 2#64 1#64 4#64 0#64) (Dc.mk (frm r1) 2#64 1#64 4#64 (frm r2)) (frm r2) 5#64 (frm r2) _ (HT.out.up hx.below)) ?_
          simp only [List.set_cons_succ, List.set_cons_zero]
          refine lin_val (i := 40) (v := .bool false) rfl rfl (by rfl) (by intro x hx; go_simp; (first | done | exact rfl)) ?_
          simp only [List.set_cons_succ, List.set_cons_zero]
          refine lin_val (i := 41) (v := .bool false) rfl rfl (by rfl) (by intro x hx; go_simp; (first | done | exact rfl)) ?_
          simp only [List.set_cons_succ, List.set_cons_zero]
          refine lin_done ?_
          intro W18 hx
          replace HS := hid hx
          clear hx
          -- region 7
          go_upto_region 7 with fail
          refine lin_begin (St w [⟨k1, [some (.int .i64 1), some (.int .i64 1), some (.int .i64 1), some (.int .i64 0), some (.int .i64 0)], 30⟩, ⟨k2, [some (.int .i64 (ti (frm r1))), some (.int .i64 2), some (.int .i64 1), some (.int .i64 4), some (.int .i64 0)], 30⟩, ⟨k3, [some (.int .i64 (ti (frm r1))), some (.int .i64 2), some (.int .i64 1), some (.int .i64 0), some (.int .i64 0)], 30⟩, ⟨k4, [some (.int .i64 (ti (frm r1))), some (.int .i64 2), some (.int .i64 1), some (.int .i64 4), some (.int .i64 0), some (.int .i64 1), some (.int .i64 1), some (.int .i64 1), some (.int .i64 0), some (.int .i64 0)], 30⟩, ⟨k5, [some (.int .i64 (ti (frm r1))), some (.int .i64 (ti (frm r2))), some (.int .i64 1), some (.int .i64 4), some (.int .i64 0)], 30⟩, ⟨k6, [some (.int .i64 (ti (frm r1))), some (.int .i64 2), some (.int .i64 (ti (frm r2))), some (.int .i64 4), some (.int .i64 0)], 30⟩, ⟨k7, [some (.int .i64 (ti (frm r1))), some (.int .i64 2), some (.int .i64 1), some (.int .i64 (ti (frm r2))), some (.int .i64 0)], 30⟩, ⟨k8, [some (.int .i64 (ti (frm r1))), some (.int .i64 2), some (.int .i64 1), some (.int .i64 4), some (.int .i64 (ti (frm r2)))], 30⟩, ⟨k9, [some (.int .i64 (ti (frm r1))), some (.int .i64 2), some (.int .i64 1), some (.int .i64 4), some (.int .i64 0), some (.int .i64 1), some (.int .i64 1), some (.int .i64 1), some (.int .i64 0), some (.int .i64 0)], 30⟩, ⟨k10, [some (.int .i64 (ti (frm r1))), some (.int .i64 (ti (frm r2))), some (.int .i64 1), some (.int .i64 4), some (.int .i64 0), some (.int .i64 1), some (.int .i64 1), some (.int .i64 1), some (.int .i64 0), some (.int .i64 0)], 30⟩, ⟨k11, [some (.int .i64 (ti (frm r1))), some (.int .i64 2), some (.int .i64 (ti (frm r2))), some (.int .i64 4), some (.int .i64 0), some (.int .i64 1), some (.int .i64 1), some (.int .i64 1), some (.int .i64 0), some (.int .i64 0)], 30⟩, ⟨k12, [some (.int .i64 (ti (frm r1))), some (.int .i64 2), some (.int .i64 1), some (.int .i64 (ti (frm r2))), some (.int .i64 0), some (.int .i64 1), some (.int .i64 1), some (.int .i64 1), some (.int .i64 0), some (.int .i64 0)], 30⟩, ⟨k13, [some (.int .i64 (ti (frm r1))), some (.int .i64 2), some (.int .i64 1), some (.int .i64 4), some (.int .i64 (ti (frm r2))), some (.int .i64 1), some (.int .i64 1), some (.int .i64 1), some (.int .i64 0), some (.int .i64 0)], 30⟩]) rfl HS.out ?_
          refine lin_val (i := 0) (v := .int .i64 (ti (frm r2))) rfl rfl (by rfl) (by intro x hx; go_simp; (first | done | exact rfl)) ?_
          simp only [List.set_cons_succ, List.set_cons_zero]
          refine lin_val (i := 1) (v := .int .i64 (ti ((frm r2) + 1#64))) rfl rfl (by rfl) (by intro x hx; exact (show _ = Result.ok (Next.value (.int .i64 (IntKind.i64.wrap ((ti (frm r2) : Int) + (1))))) x by kernel_rfl).trans (by rw [show (1 : Int) = ti 1#64 from by decide, addIT (frm r2) 1#64])) ?_
          simp only [List.set_cons_succ, List.set_cons_zero]
          refine lin_val (i := 2) (v := .int .i64 (ti ((frm r2) + 1#64))) rfl rfl (by rfl) (by intro x hx; go_simp; (first | done | exact rfl)) ?_
          simp only [List.set_cons_succ, List.set_cons_zero]
          refine lin_done ?_
          intro W19 hx
          replace HS := hid hx
          clear hx
          go_wp2
          rw [frm_next r2]
          exact ⟨hlt2, hid ⟨_, _, _, _, _, _, _, _, _, _, _, _, _, _, _, _, _, _, _, _, _, _, _, _, _, _, _, _, _, _, _, _, _, _, _, _, _, _, _, _, _, _, _, _, _, _, _, _, _, _, _, _, _, _, _, _, _, _, _, _, _, _, _, _, _, _, _, _, _, _, _, _, _, _, _, _, _, rfl, (HS.out.cut 1)⟩⟩
        · replace h2 := hid h2
          -- region 12
          go_upto_region 12 with fail
          refine lin_begin (St w [⟨k1, [some (.int .i64 1), some (.int .i64 1), some (.int .i64 1), some (.int .i64 0), some (.int .i64 0)], 30⟩, ⟨k2, [some (.int .i64 (ti (frm r1))), some (.int .i64 2), some (.int .i64 1), some (.int .i64 4), some (.int .i64 0)], 30⟩, ⟨k3, [some (.int .i64 (ti (frm r1))), some (.int .i64 2), some (.int .i64 1), some (.int .i64 0), some (.int .i64 0)], 30⟩, ⟨k4, [some (.int .i64 (ti (frm r1))), some (.int .i64 2), some (.int .i64 1), some (.int .i64 4), some (.int .i64 0), some (.int .i64 1), some (.int .i64 1), some (.int .i64 1), some (.int .i64 0), some (.int .i64 0)], 30⟩]) rfl HS.out ?_
          refine lin_val (i := 0) (v := .pointer (some ⟨k2, 4, none⟩)) rfl rfl (by rfl) (by intro x hx; go_simp; (first | done | exact rfl)) ?_
          simp only [List.set_cons_succ, List.set_cons_zero]
          refine lin_store (i := 1) (St w [⟨k1, [some (.int .i64 1), some (.int .i64 1), some (.int .i64 1), some (.int .i64 0), some (.int .i64 0)], 30⟩, ⟨k2, [some (.int .i64 (ti (frm r1))), some (.int .i64 2), some (.int .i64 1), some (.int .i64 4), some (.int .i64 2)], 30⟩, ⟨k3, [some (.int .i64 (ti (frm r1))), some (.int .i64 2), some (.int .i64 1), some (.int .i64 0), some (.int .i64 0)], 30⟩, ⟨k4, [some (.int .i64 (ti (frm r1))), some (.int .i64 2), some (.int .i64 1), some (.int .i64 4), some (.int .i64 0), some (.int .i64 1), some (.int .i64 1), some (.int .i64 1), some (.int .i64 0), some (.int .i64 0)], 30⟩]) rfl rfl (by rfl) (fun x => (x.setCell ⟨k2, 4, none⟩ (.int .i64 2))) (by intro x hx; obtain ⟨u0, z0⟩ := hx.has 1 4 rfl (by simp); have q0 := hx.soft 1 4 rfl; go_simp; (first | done | rfl)) (fun x hx => (hx.put 1 4 (.int .i64 2) rfl)) ?_
          refine lin_done ?_
          intro W10 hx
          replace HS := hid hx
          clear hx
          -- region 13
          go_upto_region 13 with fail
          refine lin_begin (St w [⟨k1, [some (.int .i64 1), some (.int .i64 1), some (.int .i64 1), some (.int .i64 0), some (.int .i64 0)], 30⟩, ⟨k2, [some (.int .i64 (ti (frm r1))), some (.int .i64 2), some (.int .i64 1), some (.int .i64 4), some (.int .i64 2)], 30⟩, ⟨k3, [some (.int .i64 (ti (frm r1))), some (.int .i64 2), some (.int .i64 1), some (.int .i64 0), some (.int .i64 0)], 30⟩, ⟨k4, [some (.int .i64 (ti (frm r1))), some (.int .i64 2), some (.int .i64 1), some (.int .i64 4), some (.int .i64 0), some (.int .i64 1), some (.int .i64 1), some (.int .i64 1), some (.int .i64 0), some (.int .i64 0)], 30⟩]) rfl HS.out ?_
          refine lin_val (i := 0) (v := .agg #[.int .i64 (ti (frm r1)), .int .i64 2, .int .i64 1, .int .i64 4, .int .i64 2]) rfl rfl (by rfl) (by intro x hx; have f0 := hx.load 1 0 rfl rfl; have f1 := hx.load 1 1 rfl rfl; have f2 := hx.load 1 2 rfl rfl; have f3 := hx.load 1 3 rfl rfl; have f4 := hx.load 1 4 rfl rfl; go_simp; (first | done | exact rfl)) ?_
          simp only [List.set_cons_succ, List.set_cons_zero]
          refine lin_new (i := 1) rfl rfl (by rfl) [.int .i64 0, .int .i64 0, .int .i64 0, .int .i64 0, .int .i64 0] 30 (fun k => .pointer (some ⟨k, 0, none⟩)) [some (.int .i64 0), some (.int .i64 0), some (.int .i64 0), some (.int .i64 0), some (.int .i64 0)] (lessC_refl _) (by intro x hx; go_simp; (first | done | exact rfl)) (fun k5 => ?_)
          simp only [List.set_cons_succ, List.set_cons_zero]
          refine lin_store (i := 2) (St w [⟨k1, [some (.int .i64 1), some (.int .i64 1), some (.int .i64 1), some (.int .i64 0), some (.int .i64 0)], 30⟩, ⟨k2, [some (.int .i64 (ti (frm r1))), some (.int .i64 2), some (.int .i64 1), some (.int .i64 4), some (.int .i64 2)], 30⟩, ⟨k3, [some (.int .i64 (ti (frm r1))), some (.int .i64 2), some (.int .i64 1), some (.int .i64 0), some (.int .i64 0)], 30⟩, ⟨k4, [some (.int .i64 (ti (frm r1))), some (.int .i64 2), some (.int .i64 1), some (.int .i64 4), some (.int .i64 0), some (.int .i64 1), some (.int .i64 1), some (.int .i64 1), some (.int .i64 0), some (.int .i64 0)], 30⟩, ⟨k5, [some (.int .i64 (ti (frm r1))), some (.int .i64 2), some (.int .i64 1), some (.int .i64 4), some (.int .i64 2)], 30⟩]) rfl rfl (by rfl) (fun x => (((((x.setCell ⟨k5, 0, none⟩ (.int .i64 (ti (frm r1)))).setCell ⟨k5, 1, none⟩ (.int .i64 2)).setCell ⟨k5, 2, none⟩ (.int .i64 1)).setCell ⟨k5, 3, none⟩ (.int .i64 4)).setCell ⟨k5, 4, none⟩ (.int .i64 2))) (by intro x hx; obtain ⟨u0, z0⟩ := hx.has 4 0 rfl (by simp); have q0 := hx.soft 4 0 rfl; obtain ⟨u1, z1⟩ := hx.has 4 1 rfl (by simp); have q1 := hx.soft 4 1 rfl; obtain ⟨u2, z2⟩ := hx.has 4 2 rfl (by simp); have q2 := hx.soft 4 2 rfl; obtain ⟨u3, z3⟩ := hx.has 4 3 rfl (by simp); have q3 := hx.soft 4 3 rfl; obtain ⟨u4, z4⟩ := hx.has 4 4 rfl (by simp); have q4 := hx.soft 4 4 rfl; go_simp; (first | done | rfl)) (fun x hx => (((((hx.put 4 0 (.int .i64 (ti (frm r1))) rfl).put 4 1 (.int .i64 2) rfl).put 4 2 (.int .i64 1) rfl).put 4 3 (.int .i64 4) rfl).put 4 4 (.int .i64 2) rfl)) ?_
          refine lin_done ?_
          intro W11 hx
          replace HS := hid hx
          clear hx
          -- region 14
          go_upto_region 14 with fail
          refine lin_begin (St w [⟨k1, [some (.int .i64 1), some (.int .i64 1), some (.int .i64 1), some (.int .i64 0), some (.int .i64 0)], 30⟩, ⟨k2, [some (.int .i64 (ti (frm r1))), some (.int .i64 2), some (.int .i64 1), some (.int .i64 4), some (.int .i64 2)], 30⟩, ⟨k3, [some (.int .i64 (ti (frm r1))), some (.int .i64 2), some (.int .i64 1), some (.int .i64 0), some (.int .i64 0)], 30⟩, ⟨k4, [some (.int .i64 (ti (frm r1))), some (.int .i64 2), some (.int .i64 1), some (.int .i64 4), some (.int .i64 0), some (.int .i64 1), some (.int .i64 1), some (.int .i64 1), some (.int .i64 0), some (.int .i64 0)], 30⟩, ⟨k5, [some (.int .i64 (ti (frm r1))), some (.int .i64 2), some (.int .i64 1), some (.int .i64 4), some (.int .i64 2)], 30⟩]) rfl HS.out ?_
          refine lin_val (i := 0) (v := .int .i64 (ti (frm r2))) rfl rfl (by rfl) (by intro x hx; go_simp; (first | done | exact rfl)) ?_
          simp only [List.set_cons_succ, List.set_cons_zero]
          refine lin_val (i := 1) (v := .pointer (some ⟨k5, 1, none⟩)) rfl rfl (by rfl) (by intro x hx; go_simp; (first | done | exact rfl)) ?_
          simp only [List.set_cons_succ, List.set_cons_zero]
          refine lin_store (i := 2) (St w [⟨k1, [some (.int .i64 1), some (.int .i64 1), some (.int .i64 1), some (.int .i64 0), some (.int .i64 0)], 30⟩, ⟨k2, [some (.int .i64 (ti (frm r1))), some (.int .i64 2), some (.int .i64 1), some (.int .i64 4), some (.int .i64 2)], 30⟩, ⟨k3, [some (.int .i64 (ti (frm r1))), some (.int .i64 2), some (.int .i64 1), some (.int .i64 0), some (.int .i64 0)], 30⟩, ⟨k4, [some (.int .i64 (ti (frm r1))), some (.int .i64 2), some (.int .i64 1), some (.int .i64 4), some (.int .i64 0), some (.int .i64 1), some (.int .i64 1), some (.int .i64 1), some (.int .i64 0), some (.int .i64 0)], 30⟩, ⟨k5, [some (.int .i64 (ti (frm r1))), some (.int .i64 (ti (frm r2))), some (.int .i64 1), some (.int .i64 4), some (.int .i64 2)], 30⟩]) rfl rfl (by rfl) (fun x => (x.setCell ⟨k5, 1, none⟩ (.int .i64 (ti (frm r2))))) (by intro x hx; obtain ⟨u0, z0⟩ := hx.has 4 1 rfl (by simp); have q0 := hx.soft 4 1 rfl; go_simp; (first | done | rfl)) (fun x hx => (hx.put 4 1 (.int .i64 (ti (frm r2))) rfl)) ?_
          refine lin_done ?_
          intro W12 hx
          replace HS := hid hx
          clear hx
          -- region 15
          go_upto_region 15 with fail
          refine lin_begin (St w [⟨k1, [some (.int .i64 1), some (.int .i64 1), some (.int .i64 1), some (.int .i64 0), some (.int .i64 0)], 30⟩, ⟨k2, [some (.int .i64 (ti (frm r1))), some (.int .i64 2), some (.int .i64 1), some (.int .i64 4), some (.int .i64 2)], 30⟩, ⟨k3, [some (.int .i64 (ti (frm r1))), some (.int .i64 2), some (.int .i64 1), some (.int .i64 0), some (.int .i64 0)], 30⟩, ⟨k4, [some (.int .i64 (ti (frm r1))), some (.int .i64 2), some (.int .i64 1), some (.int .i64 4), some (.int .i64 0), some (.int .i64 1), some (.int .i64 1), some (.int .i64 1), some (.int .i64 0), some (.int .i64 0)], 30⟩, ⟨k5, [some (.int .i64 (ti (frm r1))), some (.int .i64 (ti (frm r2))), some (.int .i64 1), some (.int .i64 4), some (.int .i64 2)], 30⟩]) rfl HS.out ?_
          refine lin_val (i := 0) (v := .agg #[.int .i64 (ti (frm r1)), .int .i64 2, .int .i64 1, .int .i64 4, .int .i64 2]) rfl rfl (by rfl) (by intro x hx; have f0 := hx.load 1 0 rfl rfl; have f1 := hx.load 1 1 rfl rfl; have f2 := hx.load 1 2 rfl rfl; have f3 := hx.load 1 3 rfl rfl; have f4 := hx.load 1 4 rfl rfl; go_simp; (first | done | exact rfl)) ?_
          simp only [List.set_cons_succ, List.set_cons_zero]
          refine lin_new (i := 1) rfl rfl (by rfl) [.int .i64 0, .int .i64 0, .int .i64 0, .int .i64 0, .int .i64 0] 30 (fun k => .pointer (some ⟨k, 0, none⟩)) [some (.int .i64 0), some (.int .i64 0), some (.int .i64 0), some (.int .i64 0), some (.int .i64 0)] (lessC_refl _) (by intro x hx; go_simp; (first | done | exact rfl)) (fun k6 => ?_)
          simp only [List.set_cons_succ, List.set_cons_zero]
          refine lin_store (i := 2) (St w [⟨k1, [some (.int .i64 1), some (.int .i64 1), some (.int .i64 1), some (.int .i64 0), some (.int .i64 0)], 30⟩, ⟨k2, [some (.int .i64 (ti (frm r1))), some (.int .i64 2), some (.int .i64 1), some (.int .i64 4), some (.int .i64 2)], 30⟩, ⟨k3, [some (.int .i64 (ti (frm r1))), some (.int .i64 2), some (.int .i64 1), some (.int .i64 0), some (.int .i64 0)], 30⟩, ⟨k4, [some (.int .i64 (ti (frm r1))), some (.int .i64 2), some (.int .i64 1), some (.int .i64 4), some (.int .i64 0), some (.int .i64 1), some (.int .i64 1), some (.int .i64 1), some (.int .i64 0), some (.int .i64 0)], 30⟩, ⟨k5, [some (.int .i64 (ti (frm r1))), some (.int .i64 (ti (frm r2))), some (.int .i64 1), some (.int .i64 4), some (.int .i64 2)], 30⟩, ⟨k6, [some (.int .i64 (ti (frm r1))), some (.int .i64 2), some (.int .i64 1), some (.int .i64 4), some (.int .i64 2)], 30⟩]) rfl rfl (by rfl) (fun x => (((((x.setCell ⟨k6, 0, none⟩ (.int .i64 (ti (frm r1)))).setCell ⟨k6, 1, none⟩ (.int .i64 2)).setCell ⟨k6, 2, none⟩ (.int .i64 1)).setCell ⟨k6, 3, none⟩ (.int .i64 4)).setCell ⟨k6, 4, none⟩ (.int .i64 2))) (by intro x hx; obtain ⟨u0, z0⟩ := hx.has 5 0 rfl (by simp); have q0 := hx.soft 5 0 rfl; obtain ⟨u1, z1⟩ := hx.has 5 1 rfl (by simp); have q1 := hx.soft 5 1 rfl; obtain ⟨u2, z2⟩ := hx.has 5 2 rfl (by simp); have q2 := hx.soft 5 2 rfl; obtain ⟨u3, z3⟩ := hx.has 5 3 rfl (by simp); have q3 := hx.soft 5 3 rfl; obtain ⟨u4, z4⟩ := hx.has 5 4 rfl (by simp); have q4 := hx.soft 5 4 rfl; go_simp; (first | done | rfl)) (fun x hx => (((((hx.put 5 0 (.int .i64 (ti (frm r1))) rfl).put 5 1 (.int .i64 2) rfl).put 5 2 (.int .i64 1) rfl).put 5 3 (.int .i64 4) rfl).put 5 4 (.int .i64 2) rfl)) ?_
          refine lin_done ?_
          intro W13 hx
          replace HS := hid hx
          clear hx
          -- region 16
          go_upto_region 16 with fail
          refine lin_begin (St w [⟨k1, [some (.int .i64 1), some (.int .i64 1), some (.int .i64 1), some (.int .i64 0), some (.int .i64 0)], 30⟩, ⟨k2, [some (.int .i64 (ti (frm r1))), some (.int .i64 2), some (.int .i64 1), some (.int .i64 4), some (.int .i64 2)], 30⟩, ⟨k3, [some (.int .i64 (ti (frm r1))), some (.int .i64 2), some (.int .i64 1), some (.int .i64 0), some (.int .i64 0)], 30⟩, ⟨k4, [some (.int .i64 (ti (frm r1))), some (.int .i64 2), some (.int .i64 1), some (.int .i64 4), some (.int .i64 0), some (.int .i64 1), some (.int .i64 1), some (.int .i64 1), some (.int .i64 0), some (.int .i64 0)], 30⟩, ⟨k5, [some (.int .i64 (ti (frm r1))), some (.int .i64 (ti (frm r2))), some (.int .i64 1), some (.int .i64 4), some (.int .i64 2)], 30⟩, ⟨k6, [some (.int .i64 (ti (frm r1))), some (.int .i64 2), some (.int .i64 1), some (.int .i64 4), some (.int .i64 2)], 30⟩]) rfl HS.out ?_
          refine lin_val (i := 0) (v := .int .i64 (ti (frm r2))) rfl rfl (by rfl) (by intro x hx; go_simp; (first | done | exact rfl)) ?_
          simp only [List.set_cons_succ, List.set_cons_zero]
          refine lin_val (i := 1) (v := .pointer (some ⟨k6, 2, none⟩)) rfl rfl (by rfl) (by intro x hx; go_simp; (first | done | exact rfl)) ?_
          simp only [List.set_cons_succ, List.set_cons_zero]
          refine lin_store (i := 2) (St w [⟨k1, [some (.int .i64 1), some (.int .i64 1), some (.int .i64 1), some (.int .i64 0), some (.int .i64 0)], 30⟩, ⟨k2, [some (.int .i64 (ti (frm r1))), some (.int .i64 2), some (.int .i64 1), some (.int .i64 4), some (.int .i64 2)], 30⟩, ⟨k3, [some (.int .i64 (ti (frm r1))), some (.int .i64 2), some (.int .i64 1), some (.int .i64 0), some (.int .i64 0)], 30⟩, ⟨k4, [some (.int .i64 (ti (frm r1))), some (.int .i64 2), some (.int .i64 1), some (.int .i64 4), some (.int .i64 0), some (.int .i64 1), some (.int .i64 1), some (.int .i64 1), some (.int .i64 0), some (.int .i64 0)], 30⟩, ⟨k5, [some (.int .i64 (ti (frm r1))), some (.int .i64 (ti (frm r2))), some (.int .i64 1), some (.int .i64 4), some (.int .i64 2)], 30⟩, ⟨k6, [some (.int .i64 (ti (frm r1))), some (.int .i64 2), some (.int .i64 (ti (frm r2))), some (.int .i64 4), some (.int .i64 2)], 30⟩]) rfl rfl (by rfl) (fun x => (x.setCell ⟨k6, 2, none⟩ (.int .i64 (ti (frm r2))))) (by intro x hx; obtain ⟨u0, z0⟩ := hx.has 5 2 rfl (by simp); have q0 := hx.soft 5 2 rfl; go_simp; (first | done | rfl)) (fun x hx => (hx.put 5 2 (.int .i64 (ti (frm r2))) rfl)) ?_
          refine lin_done ?_
          intro W14 hx
          replace HS := hid hx
          clear hx
          -- region 17
          go_upto_region 17 with fail
          refine lin_begin (St w [⟨k1, [some (.int .i64 1), some (.int .i64 1), some (.int .i64 1), some (.int .i64 0), some (.int .i64 0)], 30⟩, ⟨k2, [some (.int .i64 (ti (frm r1))), some (.int .i64 2), some (.int .i64 1), some (.int .i64 4), some (.int .i64 2)], 30⟩, ⟨k3, [some (.int .i64 (ti (frm r1))), some (.int .i64 2), some (.int .i64 1), some (.int .i64 0), some (.int .i64 0)], 30⟩, ⟨k4, [some (.int .i64 (ti (frm r1))), some (.int .i64 2), some (.int .i64 1), some (.int .i64 4), some (.int .i64 0), some (.int .i64 1), some (.int .i64 1), some (.int .i64 1), some (.int .i64 0), some (.int .i64 0)], 30⟩, ⟨k5, [some (.int .i64 (ti (frm r1))), some (.int .i64 (ti (frm r2))), some (.int .i64 1), some (.int .i64 4), some (.int .i64 2)], 30⟩, ⟨k6, [some (.int .i64 (ti (frm r1))), some (.int .i64 2), some (.int .i64 (ti (frm r2))), some (.int .i64 4), some (.int .i64 2)], 30⟩]) rfl HS.out ?_
          refine lin_val (i := 0) (v := .agg #[.int .i64 (ti (frm r1)), .int .i64 2, .int .i64 1, .int .i64 4, .int .i64 2]) rfl rfl (by rfl) (by intro x hx; have f0 := hx.load 1 0 rfl rfl; have f1 := hx.load 1 1 rfl rfl; have f2 := hx.load 1 2 rfl rfl; have f3 := hx.load 1 3 rfl rfl; have f4 := hx.load 1 4 rfl rfl; go_simp; (first | done | exact rfl)) ?_
          simp only [List.set_cons_succ, List.set_cons_zero]
          refine lin_new (i := 1) rfl rfl (by rfl) [.int .i64 0, .int .i64 0, .int .i64 0, .int .i64 0, .int .i64 0] 30 (fun k => .pointer (some ⟨k, 0, none⟩)) [some (.int .i64 0), some (.int .i64 0), some (.int .i64 0), some (.int .i64 0), some (.int .i64 0)] (lessC_refl _) (by intro x hx; go_simp; (first | done | exact rfl)) (fun k7 => ?_)
          simp only [List.set_cons_succ, List.set_cons_zero]
          refine lin_store (i := 2) (St w [⟨k1, [some (.int .i64 1), some (.int .i64 1), some (.int .i64 1), some (.int .i64 0), some (.int .i64 0)], 30⟩, ⟨k2, [some (.int .i64 (ti (frm r1))), some (.int .i64 2), some (.int .i64 1), some (.int .i64 4), some (.int .i64 2)], 30⟩, ⟨k3, [some (.int .i64 (ti (frm r1))), some (.int .i64 2), some (.int .i64 1), some (.int .i64 0), some (.int .i64 0)], 30⟩, ⟨k4, [some (.int .i64 (ti (frm r1))), some (.int .i64 2), some (.int .i64 1), some (.int .i64 4), some (.int .i64 0), some (.int .i64 1), some (.int .i64 1), some (.int .i64 1), some (.int .i64 0), some (.int .i64 0)], 30⟩, ⟨k5, [some (.int .i64 (ti (frm r1))), some (.int .i64 (ti (frm r2))), some (.int .i64 1), some (.int .i64 4), some (.int .i64 2)], 30⟩, ⟨k6, [some (.int .i64 (ti (frm r1))), some (.int .i64 2), some (.int .i64 (ti (frm r2))), some (.int .i64 4), some (.int .i64 2)], 30⟩, ⟨k7, [some (.int .i64 (ti (frm r1))), some (.int .i64 2), some (.int .i64 1), some (.int .i64 4), some (.int .i64 2)], 30⟩]) rfl rfl (by rfl) (fun x => (((((x.setCell ⟨k7, 0, none⟩ (.int .i64 (ti (frm r1)))).setCell ⟨k7, 1, none⟩ (.int .i64 2)).setCell ⟨k7, 2, none⟩ (.int .i64 1)).setCell ⟨k7, 3, none⟩ (.int .i64 4)).setCell ⟨k7, 4, none⟩ (.int .i64 2))) (by intro x hx; obtain ⟨u0, z0⟩ := hx.has 6 0 rfl (by simp); have q0 := hx.soft 6 0 rfl; obtain ⟨u1, z1⟩ := hx.has 6 1 rfl (by simp); have q1 := hx.soft 6 1 rfl; obtain ⟨u2, z2⟩ := hx.has 6 2 rfl (by simp); have q2 := hx.soft 6 2 rfl; obtain ⟨u3, z3⟩ := hx.has 6 3 rfl (by simp); have q3 := hx.soft 6 3 rfl; obtain ⟨u4, z4⟩ := hx.has 6 4 rfl (by simp); have q4 := hx.soft 6 4 rfl; go_simp; (first | done | rfl)) (fun x hx => (((((hx.put 6 0 (.int .i64 (ti (frm r1))) rfl).put 6 1 (.int .i64 2) rfl).put 6 2 (.int .i64 1) rfl).put 6 3 (.int .i64 4) rfl).put 6 4 (.int .i64 2) rfl)) ?_
          refine lin_done ?_
          intro W15 hx
          replace HS := hid hx
          clear hx
          -- region 18
          go_upto_region 18 with fail
          refine lin_begin (St w [⟨k1, [some (.int .i64 1), some (.int .i64 1), some (.int .i64 1), some (.int .i64 0), some (.int .i64 0)], 30⟩, ⟨k2, [some (.int .i64 (ti (frm r1))), some (.int .i64 2), some (.int .i64 1), some (.int .i64 4), some (.int .i64 2)], 30⟩, ⟨k3, [some (.int .i64 (ti (frm r1))), some (.int .i64 2), some (.int .i64 1), some (.int .i64 0), some (.int .i64 0)], 30⟩, ⟨k4, [some (.int .i64 (ti (frm r1))), some (.int .i64 2), some (.int .i64 1), some (.int .i64 4), some (.int .i64 0), some (.int .i64 1), some (.int .i64 1), some (.int .i64 1), some (.int .i64 0), some (.int .i64 0)], 30⟩, ⟨k5, [some (.int .i64 (ti (frm r1))), some (.int .i64 (ti (frm r2))), some (.int .i64 1), some (.int .i64 4), some (.int .i64 2)], 30⟩, ⟨k6, [some (.int .i64 (ti (frm r1))), some (.int .i64 2), some (.int .i64 (ti (frm r2))), some (.int .i64 4), some (.int .i64 2)], 30⟩, ⟨k7, [some (.int .i64 (ti (frm r1))), some (.int .i64 2), some (.int .i64 1), some (.int .i64 4), some (.int .i64 2)], 30⟩]) rfl HS.out ?_
          refine lin_val (i := 0) (v := .int .i64 (ti (frm r2))) rfl rfl (by rfl) (by intro x hx; go_simp; (first | done | exact rfl)) ?_
          simp only [List.set_cons_succ, List.set_cons_zero]
          refine lin_val (i := 1) (v := .pointer (some ⟨k7, 3, none⟩)) rfl rfl (by rfl) (by intro x hx; go_simp; (first | done | exact rfl)) ?_
          simp only [List.set_cons_succ, List.set_cons_zero]
          refine lin_store (i := 2) (St w [⟨k1, [some (.int .i64 1), some (.int .i64 1), some (.int .i64 1), some (.int .i64 0), some (.int .i64 0)], 30⟩, ⟨k2, [some (.int .i64 (ti (frm r1))), some (.int .i64 2), some (.int .i64 1), some (.int .i64 4), some (.int .i64 2)], 30⟩, ⟨k3, [some (.int .i64 (ti (frm r1))), some (.int .i64 2), some (.int .i64 1), some (.int .i64 0), some (.int .i64 0)], 30⟩, ⟨k4, [some (.int .i64 (ti (frm r1))), some (.int .i64 2), some (.int .i64 1), some (.int .i64 4), some (.int .i64 0), some (.int .i64 1), some (.int .i64 1), some (.int .i64 1), some (.int .i64 0), some (.int .i64 0)], 30⟩, ⟨k5, [some (.int .i64 (ti (frm r1))), some (.int .i64 (ti (frm r2))), some (.int .i64 1), some (.int .i64 4), some (.int .i64 2)], 30⟩, ⟨k6, [some (.int .i64 (ti (frm r1))), some (.int .i64 2), some (.int .i64 (ti (frm r2))), some (.int .i64 4), some (.int .i64 2)], 30⟩, ⟨k7, [some (.int .i64 (ti (frm r1))), some (.int .i64 2), some (.int .i64 1), some (.int .i64 (ti (frm r2))), some (.int .i64 2)], 30⟩]) rfl rfl (by rfl) (fun x => (x.setCell ⟨k7, 3, none⟩ (.int .i64 (ti (frm r2))))) (by intro x hx; obtain ⟨u0, z0⟩ := hx.has 6 3 rfl (by simp); have q0 := hx.soft 6 3 rfl; go_simp; (first | done | rfl)) (fun x hx => (hx.put 6 3 (.int .i64 (ti (frm r2))) rfl)) ?_
          refine lin_done ?_
          intro W16 hx
          replace HS := hid hx
          clear hx
          -- region 19
          go_upto_region 19 with fail
          refine lin_begin (St w [⟨k1, [some (.int .i64 1), some (.int .i64 1), some (.int .i64 1), some (.int .i64 0), some (.int .i64 0)], 30⟩, ⟨k2, [some (.int .i64 (ti (frm r1))), some (.int .i64 2), some (.int .i64 1), some (.int .i64 4), some (.int .i64 2)], 30⟩, ⟨k3, [some (.int .i64 (ti (frm r1))), some (.int .i64 2), some (.int .i64 1), some (.int .i64 0), some (.int .i64 0)], 30⟩, ⟨k4, [some (.int .i64 (ti (frm r1))), some (.int .i64 2), some (.int .i64 1), some (.int .i64 4), some (.int .i64 0), some (.int .i64 1), some (.int .i64 1), some (.int .i64 1), some (.int .i64 0), some (.int .i64 0)], 30⟩, ⟨k5, [some (.int .i64 (ti (frm r1))), some (.int .i64 (ti (frm r2))), some (.int .i64 1), some (.int .i64 4), some (.int .i64 2)], 30⟩, ⟨k6, [some (.int .i64 (ti (frm r1))), some (.int .i64 2), some (.int .i64 (ti (frm r2))), some (.int .i64 4), some (.int .i64 2)], 30⟩, ⟨k7, [some (.int .i64 (ti (frm r1))), some (.int .i64 2), some (.int .i64 1), some (.int .i64 (ti (frm r2))), some (.int .i64 2)], 30⟩]) rfl HS.out ?_
          refine lin_val (i := 0) (v := .agg #[.int .i64 (ti (frm r1)), .int .i64 2, .int .i64 1, .int .i64 4, .int .i64 2]) rfl rfl (by rfl) (by intro x hx; have f0 := hx.load 1 0 rfl rfl; have f1 := hx.load 1 1 rfl rfl; have f2 := hx.load 1 2 rfl rfl; have f3 := hx.load 1 3 rfl rfl; have f4 := hx.load 1 4 rfl rfl; go_simp; (first | done | exact rfl)) ?_
          simp only [List.set_cons_succ, List.set_cons_zero]
          refine lin_new (i := 1) rfl rfl (by rfl) [.int .i64 0, .int .i64 0, .int .i64 0, .int .i64 0, .int .i64 0] 30 (fun k => .pointer (some ⟨k, 0, none⟩)) [some (.int .i64 0), some (.int .i64 0), some (.int .i64 0), some (.int .i64 0), some (.int .i64 0)] (lessC_refl _) (by intro x hx; go_simp; (first | done | exact rfl)) (fun k8 => ?_)
          simp only [List.set_cons_succ, List.set_cons_zero]
          refine lin_store (i := 2) (St w [⟨k1, [some (.int .i64 1), some (.int .i64 1), some (.int .i64 1), some (.int .i64 0), some (.int .i64 0)], 30⟩, ⟨k2, [some (.int .i64 (ti (frm r1))), some (.int .i64 2), some (.int .i64 1), some (.int .i64 4), some (.int .i64 2)], 30⟩, ⟨k3, [some (.int .i64 (ti (frm r1))), some (.int .i64 2), some (.int .i64 1), some (.int .i64 0), some (.int .i64 0)], 30⟩, ⟨k4, [some (.int .i64 (ti (frm r1))), some (.int .i64 2), some (.int .i64 1), some (.int .i64 4), some (.int .i64 0), some (.int .i64 1), some (.int .i64 1), some (.int .i64 1), some (.int .i64 0), some (.int .i64 0)], 30⟩, ⟨k5, [some (.int .i64 (ti (frm r1))), some (.int .i64 (ti (frm r2))), some (.int .i64 1), some (.int .i64 4), some (.int .i64 2)], 30⟩, ⟨k6, [some (.int .i64 (ti (frm r1))), some (.int .i64 2), some (.int .i64 (ti (frm r2))), some (.int .i64 4), some (.int .i64 2)], 30⟩, ⟨k7, [some (.int .i64 (ti (frm r1))), some (.int .i64 2), some (.int .i64 1), some (.int .i64 (ti (frm r2))), some (.int .i64 2)], 30⟩, ⟨k8, [some (.int .i64 (ti (frm r1))), some (.int .i64 2), some (.int .i64 1), some (.int .i64 4), some (.int .i64 2)], 30⟩]) rfl rfl (by rfl) (fun x => (((((x.setCell ⟨k8, 0, none⟩ (.int .i64 (ti (frm r1)))).setCell ⟨k8, 1, none⟩ (.int .i64 2)).setCell ⟨k8, 2, none⟩ (.int .i64 1)).setCell ⟨k8, 3, none⟩ (.int .i64 4)).setCell ⟨k8, 4, none⟩ (.int .i64 2))) (by intro x hx; obtain ⟨u0, z0⟩ := hx.has 7 0 rfl (by simp); have q0 := hx.soft 7 0 rfl; obtain ⟨u1, z1⟩ := hx.has 7 1 rfl (by simp); have q1 := hx.soft 7 1 rfl; obtain ⟨u2, z2⟩ := hx.has 7 2 rfl (by simp); have q2 := hx.soft 7 2 rfl; obtain ⟨u3, z3⟩ := hx.has 7 3 rfl (by simp); have q3 := hx.soft 7 3 rfl; obtain ⟨u4, z4⟩ := hx.has 7 4 rfl (by simp); have q4 := hx.soft 7 4 rfl; go_simp; (first | done | rfl)) (fun x hx => (((((hx.put 7 0 (.int .i64 (ti (frm r1))) rfl).put 7 1 (.int .i64 2) rfl).put 7 2 (.int .i64 1) rfl).put 7 3 (.int .i64 4) rfl).put 7 4 (.int .i64 2) rfl)) ?_
          refine lin_done ?_
          intro W17 hx
          replace HS := hid hx
          clear hx
          -- region 20
          go_upto_region 20 with fail
          refine lin_begin (St w [⟨k1, [some (.int .i64 1), some (.int .i64 1), some (.int .i64 1), some (.int .i64 0), some (.int .i64 0)], 30⟩, ⟨k2, [some (.int .i64 (ti (frm r1))), some (.int .i64 2), some (.int .i64 1), some (.int .i64 4), some (.int .i64 2)], 30⟩, ⟨k3, [some (.int .i64 (ti (frm r1))), some (.int .i64 2), some (.int .i64 1), some (.int .i64 0), some (.int .i64 0)], 30⟩, ⟨k4, [some (.int .i64 (ti (frm r1))), some (.int .i64 2), some (.int .i64 1), some (.int .i64 4), some (.int .i64 0), some (.int .i64 1), some (.int .i64 1), some (.int .i64 1), some (.int .i64 0), some (.int .i64 0)], 30⟩, ⟨k5, [some (.int .i64 (ti (frm r1))), some (.int .i64 (ti (frm r2))), some (.int .i64 1), some (.int .i64 4), some (.int .i64 2)], 30⟩, ⟨k6, [some (.int .i64 (ti (frm r1))), some (.int .i64 2), some (.int .i64 (ti (frm r2))), some (.int .i64 4), some (.int .i64 2)], 30⟩, ⟨k7, [some (.int .i64 (ti (frm r1))), some (.int .i64 2), some (.int .i64 1), some (.int .i64 (ti (frm r2))), some (.int .i64 2)], 30⟩, ⟨k8, [some (.int .i64 (ti (frm r1))), some (.int .i64 2), some (.int .i64 1), some (.int .i64 4), some (.int .i64 2)], 30⟩]) rfl HS.out ?_
          refine lin_val (i := 0) (v := .int .i64 (ti (frm r2))) rfl rfl (by rfl) (by intro x hx; go_simp; (first | done | exact rfl)) ?_
          simp only [List.set_cons_succ, List.set_cons_zero]
          refine lin_val (i := 1) (v := .pointer (some ⟨k8, 4, none⟩)) rfl rfl (by rfl) (by intro x hx; go_simp; (first | done | exact rfl)) ?_
          simp only [List.set_cons_succ, List.set_cons_zero]
          refine lin_store (i := 2) (St w [⟨k1, [some (.int .i64 1), some (.int .i64 1), some (.int .i64 1), some (.int .i64 0), some (.int .i64 0)], 30⟩, ⟨k2, [some (.int .i64 (ti (frm r1))), some (.int .i64 2), some (.int .i64 1), some (.int .i64 4), some (.int .i64 2)], 30⟩, ⟨k3, [some (.int .i64 (ti (frm r1))), some (.int .i64 2), some (.int .i64 1), some (.int .i64 0), some (.int .i64 0)], 30⟩, ⟨k4, [some (.int .i64 (ti (frm r1))), some (.int .i64 2), some (.int .i64 1), some (.int .i64 4), some (.int .i64 0), some (.int .i64 1), some (.int .i64 1), some (.int .i64 1), some (.int .i64 0), some (.int .i64 0)], 30⟩, ⟨k5, [some (.int .i64 (ti (frm r1))), some (.int .i64 (ti (frm r2))), some (.int .i64 1), some (.int .i64 4), some (.int .i64 2)], 30⟩, ⟨k6, [some (.int .i64 (ti (frm r1))), some (.int .i64 2), some (.int .i64 (ti (frm r2))), some (.int .i64 4), some (.int .i64 2)], 30⟩, ⟨k7, [some (.int .i64 (ti (frm r1))), some (.int .i64 2), some (.int .i64 1), some (.int .i64 (ti (frm r2))), some (.int .i64 2)], 30⟩, ⟨k8, [some (.int .i64 (ti (frm r1))), some (.int .i64 2), some (.int .i64 1), some (.int .i64 4), some (.int .i64 (ti (frm r2)))], 30⟩]) rfl rfl (by rfl) (fun x => (x.setCell ⟨k8, 4, none⟩ (.int .i64 (ti (frm r2))))) (by intro x hx; obtain ⟨u0, z0⟩ := hx.has 7 4 rfl (by simp); have q0 := hx.soft 7 4 rfl; go_simp; (first | done | rfl)) (fun x hx => (hx.put 7 4 (.int .i64 (ti (frm r2))) rfl)) ?_
          refine lin_done ?_
          intro W18 hx
          replace HS := hid hx
          clear hx
          -- region 21
          go_upto_region 21 with fail
          refine lin_begin (St w [⟨k1, [some (.int .i64 1), some (.int .i64 1), some (.int .i64 1), some (.int .i64 0), some (.int .i64 0)], 30⟩, ⟨k2, [some (.int .i64 (ti (frm r1))), some (.int .i64 2), some (.int .i64 1), some (.int .i64 4), some (.int .i64 2)], 30⟩, ⟨k3, [some (.int .i64 (ti (frm r1))), some (.int .i64 2), some (.int .i64 1), some (.int .i64 0), some (.int .i64 0)], 30⟩, ⟨k4, [some (.int .i64 (ti (frm r1))), some (.int .i64 2), some (.int .i64 1), some (.int .i64 4), some (.int .i64 0), some (.int .i64 1), some (.int .i64 1), some (.int .i64 1), some (.int .i64 0), some (.int .i64 0)], 30⟩, ⟨k5, [some (.int .i64 (ti (frm r1))), some (.int .i64 (ti (frm r2))), some (.int .i64 1), some (.int .i64 4), some (.int .i64 2)], 30⟩, ⟨k6, [some (.int .i64 (ti (frm r1))), some (.int .i64 2), some (.int .i64 (ti (frm r2))), some (.int .i64 4), some (.int .i64 2)], 30⟩, ⟨k7, [some (.int .i64 (ti (frm r1))), some (.int .i64 2), some (.int .i64 1), some (.int .i64 (ti (frm r2))), some (.int .i64 2)], 30⟩, ⟨k8, [some (.int .i64 (ti (frm r1))), some (.int .i64 2), some (.int .i64 1), some (.int .i64 4), some (.int .i64 (ti (frm r2)))], 30⟩]) rfl HS.out ?_
          refine lin_val (i := 0) (v := .agg #[.int .i64 (ti (frm r1)), .int .i64 2, .int .i64 1, .int .i64 4, .int .i64 2]) rfl rfl (by rfl) (by intro x hx; have f0 := hx.load 1 0 rfl rfl; have f1 := hx.load 1 1 rfl rfl; have f2 := hx.load 1 2 rfl rfl; have f3 := hx.load 1 3 rfl rfl; have f4 := hx.load 1 4 rfl rfl; go_simp; (first | done | exact rfl)) ?_
          simp only [List.set_cons_succ, List.set_cons_zero]
          refine lin_val (i := 1) (v := .agg #[.int .i64 1, .int .i64 1, .int .i64 1, .int .i64 0, .int .i64 0]) rfl rfl (by rfl) (by intro x hx; have f0 := hx.load 0 0 rfl rfl; have f1 := hx.load 0 1 rfl rfl; have f2 := hx.load 0 2 rfl rfl; have f3 := hx.load 0 3 rfl rfl; have f4 := hx.load 0 4 rfl rfl; go_simp; (first | done | exact rfl)) ?_
          simp only [List.set_cons_succ, List.set_cons_zero]
          refine lin_new (i := 2) rfl rfl (by rfl) [.int .i64 (ti (frm r1)), .int .i64 2, .int .i64 1, .int .i64 4, .int .i64 2, .int .i64 1, .int .i64 1, .int .i64 1, .int .i64 0, .int .i64 0] 30 (fun k => .slice (some ⟨k, 0, none⟩) 2 2) [some (.int .i64 (ti (frm r1))), some (.int .i64 2), some (.int .i64 1), some (.int .i64 4), some (.int .i64 2), some (.int .i64 1), some (.int .i64 1), some (.int .i64 1), some (.int .i64 0), some (.int .i64 0)] (lessC_refl _) (by intro x hx; go_simp; (first | done | exact rfl)) (fun k9 => ?_)
          simp only [List.set_cons_succ, List.set_cons_zero]
          refine lin_call (i := 3) (f := 3) (args := #[.slice (some ⟨k9, 0, none⟩) 2 2]) (v := .bool true) (st_ups _ _) rfl rfl (by rfl) (fun x hx => by kernel_rfl) (by intro x hx; exact declChecks_any _ 2 2 [Dc.mk (frm r1) 2#64 1#64 4#64 2#64, Dc.mk 1#64 1#64 1#64 0#64 0#64] x (arg_st hx 8 rfl [Dc.mk (frm r1) 2#64 1#64 4#64 2#64, Dc.mk 1#64 1#64 1#64 0#64 0#64] (by rfl)) (by omega) (HT.out.up hx.below)) ?_
          simp only [List.set_cons_succ, List.set_cons_zero]
          refine lin_val (i := 4) (v := .bool false) rfl rfl (by rfl) (by intro x hx; go_simp; (first | done | exact rfl)) ?_
          simp only [List.set_cons_succ, List.set_cons_zero]
          refine lin_val (i := 5) (v := .bool false) rfl rfl (by rfl) (by intro x hx; go_simp; (first | done | exact rfl)) ?_
          simp only [List.set_cons_succ, List.set_cons_zero]
          refine lin_val (i := 6) (v := .agg #[.int .i64 (ti (frm r1)), .int .i64 (ti (frm r2)), .int .i64 1, .int .i64 4, .int .i64 2]) rfl rfl (by rfl) (by intro x hx; have f0 := hx.load 4 0 rfl rfl; have f1 := hx.load 4 1 rfl rfl; have f2 := hx.load 4 2 rfl rfl; have f3 := hx.load 4 3 rfl rfl; have f4 := hx.load 4 4 rfl rfl; go_simp; (first | done | exact rfl)) ?_
          simp only [List.set_cons_succ, List.set_cons_zero]
          refine lin_val (i := 7) (v := .agg #[.int .i64 1, .int .i64 1, .int .i64 1, .int .i64 0, .int .i64 0]) rfl rfl (by rfl) (by intro x hx; have f0 := hx.load 0 0 rfl rfl; have f1 := hx.load 0 1 rfl rfl; have f2 := hx.load 0 2 rfl rfl; have f3 := hx.load 0 3 rfl rfl; have f4 := hx.load 0 4 rfl rfl; go_simp; (first | done | exact rfl)) ?_
          simp only [List.set_cons_succ, List.set_cons_zero]
          refine lin_new (i := 8) rfl rfl (by rfl) [.int .i64 (ti (frm r1)), .int .i64 (ti (frm r2)), .int .i64 1, .int .i64 4, .int .i64 2, .int .i64 1, .int .i64 1, .int .i64 1, .int .i64 0, .int .i64 0] 30 (fun k => .slice (some ⟨k, 0, none⟩) 2 2) [some (.int .i64 (ti (frm r1))), some (.int .i64 (ti (frm r2))), some (.int .i64 1), some (.int .i64 4), some (.int .i64 2), some (.int .i64 1), some (.int .i64 1), some (.int .i64 1), some (.int .i64 0), some (.int .i64 0)] (lessC_refl _) (by intro x hx; go_simp; (first | done | exact rfl)) (fun k10 => ?_)
          simp only [List.set_cons_succ, List.set_cons_zero]
          refine lin_call (i := 9) (f := 3) (args := #[.slice (some ⟨k10, 0, none⟩) 2 2]) (v := .bool true) (st_ups _ _) rfl rfl (by rfl) (fun x hx => by kernel_rfl) (by intro x hx; exact declChecks_any _ 2 2 [Dc.mk (frm r1) (frm r2) 1#64 4#64 2#64, Dc.mk 1#64 1#64 1#64 0#64 0#64] x (arg_st hx 9 rfl [Dc.mk (frm r1) (frm r2) 1#64 4#64 2#64, Dc.mk 1#64 1#64 1#64 0#64 0#64] (by rfl)) (by omega) (HT.out.up hx.below)) ?_
          simp only [List.set_cons_succ, List.set_cons_zero]
          refine lin_val (i := 10) (v := .bool false) rfl rfl (by rfl) (by intro x hx; go_simp; (first | done | exact rfl)) ?_
          simp only [List.set_cons_succ, List.set_cons_zero]
          refine lin_val (i := 11) (v := .bool false) rfl rfl (by rfl) (by intro x hx; go_simp; (first | done | exact rfl)) ?_
          simp only [List.set_cons_succ, List.set_cons_zero]
          refine lin_val (i := 12) (v := .bool false) rfl rfl (by rfl) (by intro x hx; go_simp; (first | done | exact rfl)) ?_
          simp only [List.set_cons_succ, List.set_cons_zero]
          refine lin_val (i := 13) (v := .agg #[.int .i64 (ti (frm r1)), .int .i64 2, .int .i64 (ti (frm r2)), .int .i64 4, .int .i64 2]) rfl rfl (by rfl) (by intro x hx; have f0 := hx.load 5 0 rfl rfl; have f1 := hx.load 5 1 rfl rfl; have f2 := hx.load 5 2 rfl rfl; have f3 := hx.load 5 3 rfl rfl; have f4 := hx.load 5 4 rfl rfl; go_simp; (first | done | exact rfl)) ?_
          simp only [List.set_cons_succ, List.set_cons_zero]
          refine lin_val (i := 14) (v := .agg #[.int .i64 1, .int .i64 1, .int .i64 1, .int .i64 0, .int .i64 0]) rfl rfl (by rfl) (by intro x hx; have f0 := hx.load 0 0 rfl rfl; have f1 := hx.load 0 1 rfl rfl; have f2 := hx.load 0 2 rfl rfl; have f3 := hx.load 0 3 rfl rfl; have f4 := hx.load 0 4 rfl rfl; go_simp; (first | done | exact rfl)) ?_
          simp only [List.set_cons_succ, List.set_cons_zero]
          refine lin_new (i := 15) rfl rfl (by rfl) [.int .i64 (ti (frm r1)), .int .i64 2, .int .i64 (ti (frm r2)), .int .i64 4, .int .i64 2, .int .i64 1, .int .i64 1, .int .i64 1, .int .i64 0, .int .i64 0] 30 (fun k => .slice (some ⟨k, 0, none⟩) 2 2) [some (.int .i64 (ti (frm r1))), some (.int .i64 2), some (.int .i64 (ti (frm r2))), some (.int .i64 4), some (.int .i64 2), some (.int .i64 1), some (.int .i64 1), some (.int .i64 1), some (.int .i64 0), some (.int .i64 0)] (lessC_refl _) (by intro x hx; go_simp; (first | done | exact rfl)) (fun k11 => ?_)
          simp only [List.set_cons_succ, List.set_cons_zero]
          refine lin_call (i := 16) (f := 3) (args := #[.slice (some ⟨k11, 0, none⟩) 2 2]) (v := .bool true) (st_ups _ _) rfl rfl (by rfl) (fun x hx => by kernel_rfl) (by intro x hx; exact declChecks_any _ 2 2 [Dc.mk (frm r1) 2#64 (frm r2) 4#64 2#64, Dc.mk 1#64 1#64 1#64 0#64 0#64] x (arg_st hx 10 rfl [Dc.mk (frm r1) 2#64 (frm r2) 4#64 2#64, Dc.mk 1#64 1#64 1#64 0#64 0#64] (by rfl)) (by omega) (HT.out.up hx.below)) ?_
          simp only [List.set_cons_succ, List.set_cons_zero]
          refine lin_val (i := 17) (v := .bool false) rfl rfl (by rfl) (by intro x hx; go_simp; (first | done | exact rfl)) ?_
          simp only [List.set_cons_succ, List.set_cons_zero]
          refine lin_val (i := 18) (v := .bool false) rfl rfl (by rfl) (by intro x hx; go_simp; (first | done | exact rfl)) ?_
          simp only [List.set_cons_succ, List.set_cons_zero]
          refine lin_val (i := 19) (v := .bool false) rfl rfl (by rfl) (by intro x hx; go_simp; (first | done | exact rfl)) ?_
          simp only [List.set_cons_succ, List.set_cons_zero]
          refine lin_val (i := 20) (v := .agg #[.int .i64 (ti (frm r1)), .int .i64 2, .int .i64 1, .int .i64 (ti (frm r2)), .int .i64 2]) rfl rfl (by rfl) (by intro x hx; have f0 := hx.load 6 0 rfl rfl; have f1 := hx.load 6 1 rfl rfl; have f2 := hx.load 6 2 rfl rfl; have f3 := hx.load 6 3 rfl rfl; have f4 := hx.load 6 4 rfl rfl; go_simp; (first | done | exact rfl)) ?_
          simp only [List.set_cons_succ, List.set_cons_zero]
          refine lin_val (i := 21) (v := .agg #[.int .i64 1, .int .i64 1, .int .i64 1, .int .i64 0, .int .i64 0]) rfl rfl (by rfl) (by intro x hx; have f0 := hx.load 0 0 rfl rfl; have f1 := hx.load 0 1 rfl rfl; have f2 := hx.load 0 2 rfl rfl; have f3 := hx.load 0 3 rfl rfl; have f4 := hx.load 0 4 rfl rfl; go_simp; (first | done | exact rfl)) ?_
          simp only [List.set_cons_succ, List.set_cons_zero]
          refine lin_new (i := 22) rfl rfl (by rfl) [.int .i64 (ti (frm r1)), .int .i64 2, .int .i64 1, .int .i64 (ti (frm r2)), .int .i64 2, .int .i64 1, .int .i64 1, .int .i64 1, .int .i64 0, .int .i64 0] 30 (fun k => .slice (some ⟨k, 0, none⟩) 2 2) [some (.int .i64 (ti (frm r1))), some (.int .i64 2), some (.int .i64 1), some (.int .i64 (ti (frm r2))), some (.int .i64 2), some (.int .i64 1), some (.int .i64 1), some (.int .i64 1), some (.int .i64 0), some (.int .i64 0)] (lessC_refl _) (by intro x hx; go_simp; (first | done | exact rfl)) (fun k12 => ?_)
          simp only [List.set_cons_succ, List.set_cons_zero]
          refine lin_call (i := 23) (f := 3) (args := #[.slice (some ⟨k12, 0, none⟩) 2 2]) (v := .bool true) (st_ups _ _) rfl rfl (by rfl) (fun x hx => by kernel_rfl) (by intro x hx; exact declChecks_any _ 2 2 [Dc.mk (frm r1) 2#64 1#64 (frm r2) 2#64, Dc.mk 1#64 1#64 1#64 0#64 0#64] x (arg_st hx 11 rfl [Dc.mk (frm r1) 2#64 1#64 (frm r2) 2#64, Dc.mk 1#64 1#64 1#64 0#64 0#64] (by rfl)) (by omega) (HT.out.up hx.below)) ?_
          simp only [List.set_cons_succ, List.set_cons_zero]
          refine lin_val (i := 24) (v := .bool false) rfl rfl (by rfl) (by intro x hx; go_simp; (first | done | exact rfl)) ?_
          simp only [List.set_cons_succ, List.set_cons_zero]
          refine lin_val (i := 25) (v := .bool false) rfl rfl (by rfl) (by intro x hx; go_simp; (first | done | exact rfl)) ?_
          simp only [List.set_cons_succ, List.set_cons_zero]
          refine lin_val (i := 26) (v := .bool false) rfl rfl (by rfl) (by intro x hx; go_simp; (first | done | exact rfl)) ?_
          simp only [List.set_cons_succ, List.set_cons_zero]
          refine lin_val (i := 27) (v := .agg #[.int .i64 (ti (frm r1)), .int .i64 2, .int .i64 1, .int .i64 4, .int .i64 (ti (frm r2))]) rfl rfl (by rfl) (by intro x hx; have f0 := hx.load 7 0 rfl rfl; have f1 := hx.load 7 1 rfl rfl; have f2 := hx.load 7 2 rfl rfl; have f3 := hx.load 7 3 rfl rfl; have f4 := hx.load 7 4 rfl rfl; go_simp; (first | done | exact rfl)) ?_
          simp only [List.set_cons_succ, List.set_cons_zero]
          refine lin_val (i := 28) (v := .agg #[.int .i64 1, .int .i64 1, .int .i64 1, .int .i64 0, .int .i64 0]) rfl rfl (by rfl) (by intro x hx; have f0 := hx.load 0 0 rfl rfl; have f1 := hx.load 0 1 rfl rfl; have f2 := hx.load 0 2 rfl rfl; have f3 := hx.load 0 3 rfl rfl; have f4 := hx.load 0 4 rfl rfl; go_simp; (first | done | exact rfl)) ?_
          simp only [List.set_cons_succ, List.set_cons_zero]
          refine lin_new (i := 29) rfl rfl (by rfl) [.int .i64 (ti (frm r1)), .int .i64 2, .int .i64 1, .int .i64 4, .int .i64 (ti (frm r2)), .int .i64 1, .int .i64 1, .int .i64 1, .int .i64 0, .int .i64 0] 30 (fun k => .slice (some ⟨k, 0, none⟩) 2 2) [some (.int .i64 (ti (frm r1))), some (.int .i64 2), some (.int .i64 1), some (.int .i64 4), some (.int .i64 (ti (frm r2))), some (.int .i64 1), some (.int .i64 1), some (.int .i64 1), some (.int .i64 0), some (.int .i64 0)] (lessC_refl _) (by intro x hx; go_simp; (first | done | exact rfl)) (fun k13 => ?_)
          simp only [List.set_cons_succ, List.set_cons_zero]
          refine lin_call (i := 30) (f := 3) (args := #[.slice (some ⟨k13, 0, none⟩) 2 2]) (v := .bool true) (st_ups _ _) rfl rfl (by rfl) (fun x hx => by kernel_rfl) (by intro x hx; exact declChecks_any _ 2 2 [Dc.mk (frm r1) 2#64 1#64 4#64 (frm r2), Dc.mk 1#64 1#64 1#64 0#64 0#64] x (arg_st hx 12 rfl [Dc.mk (frm r1) 2#64 1#64 4#64 (frm r2), Dc.mk 1#64 1#64 1#64 0#64 0#64] (by rfl)) (by omega) (HT.out.up hx.below)) ?_
          simp only [List.set_cons_succ, List.set_cons_zero]
          refine lin_val (i := 31) (v := .bool false) rfl rfl (by rfl) (by intro x hx; go_simp; (first | done | exact rfl)) ?_
          simp only [List.set_cons_succ, List.set_cons_zero]
          refine lin_val (i := 32) (v := .bool false) rfl rfl (by rfl) (by intro x hx; go_simp; (first | done | exact rfl)) ?_
          simp only [List.set_cons_succ, List.set_cons_zero]
          refine lin_val (i := 33) (v := .bool false) rfl rfl (by rfl) (by intro x hx; go_simp; (first | done | exact rfl)) ?_
          simp only [List.set_cons_succ, List.set_cons_zero]
          refine lin_val (i := 34) (v := .agg #[.int .i64 (ti (frm r1)), .int .i64 2, .int .i64 1, .int .i64 4, .int .i64 2]) rfl rfl (by rfl) (by intro x hx; have f0 := hx.load 1 0 rfl rfl; have f1 := hx.load 1 1 rfl rfl; have f2 := hx.load 1 2 rfl rfl; have f3 := hx.load 1 3 rfl rfl; have f4 := hx.load 1 4 rfl rfl; go_simp; (first | done | exact rfl)) ?_
          simp only [List.set_cons_succ, List.set_cons_zero]
          refine lin_val (i := 35) (v := .agg #[.int .i64 (ti (frm r1)), .int .i64 2, .int .i64 1, .int .i64 4, .int .i64 (ti (frm r2))]) rfl rfl (by rfl) (by intro x hx; have f0 := hx.load 7 0 rfl rfl; have f1 := hx.load 7 1 rfl rfl; have f2 := hx.load 7 2 rfl rfl; have f3 := hx.load 7 3 rfl rfl; have f4 := hx.load 7 4 rfl rfl; go_simp; (first | done | exact rfl)) ?_
          simp only [List.set_cons_succ, List.set_cons_zero]
          refine lin_val (i := 36) (v := .int .i64 (ti (frm r2))) rfl rfl (by rfl) (by intro x hx; go_simp; (first | done | exact rfl)) ?_
          simp only [List.set_cons_succ, List.set_cons_zero]
          refine lin_val (i := 37) (v := .int .u64 (tn (frm r2))) rfl rfl (by rfl) (by intro x hx; go_simp; (first | done | exact backI (frm r2) | exact congrArg _ (backI (frm r2)) | (rw [backI (frm r2)]; done) | (rw [backI (frm r2)]; rfl))) ?_
          simp only [List.set_cons_succ, List.set_cons_zero]
          refine lin_val (i := 38) (v := .int .i64 (ti (frm r2))) rfl rfl (by rfl) (by intro x hx; go_simp; (first | done | exact rfl)) ?_
          simp only [List.set_cons_succ, List.set_cons_zero]
          refine lin_call (i := 39) (f := 4) (args := #[.agg #[.int .i64 (ti (frm r1)), .int .i64 (ti (2#64)), .int .i64 (ti (1#64)), .int .i64 (ti (4#64)), .int .i64 (ti (2#64))], .agg #[.int .i64 (ti (frm r1)), .int .i64 (ti (2#64)), .int .i64 (ti (1#64)), .int .i64 (ti (4#64)), .int .i64 (ti (frm r2))], .int .u64 (tn (frm r2)), .int .u64 (tn (5#64)), .int .i64 (ti (frm r2))]) (v := .bool true) (st_ups _ _) rfl rfl (by rfl) (fun x hx => by kernel_rfl) (by intro x hx; exact declTells (Dc.mk (frm r1) 2#64 1#64 4#64 2#64) (Dc.mk (frm r1) 2#64 1#64 4#64 (frm r2)) (frm r2) 5#64 (frm r2) _ (HT.out.up hx.below)) ?_
          simp only [List.set_cons_succ, List.set_cons_zero]
          refine lin_val (i := 40) (v := .bool false) rfl rfl (by rfl) (by intro x hx; go_simp; (first | done | exact rfl)) ?_
          simp only [List.set_cons_succ, List.set_cons_zero]
          refine lin_val (i := 41) (v := .bool false) rfl rfl (by rfl) (by intro x hx; go_simp; (first | done | exact rfl)) ?_
          simp only [List.set_cons_succ, List.set_cons_zero]
          refine lin_done ?_
          intro W19 hx
          replace HS := hid hx
          clear hx
          -- region 7
          go_upto_region 7 with fail
          refine lin_begin (St w [⟨k1, [some (.int .i64 1), some (.int .i64 1), some (.int .i64 1), some (.int .i64 0), some (.int .i64 0)], 30⟩, ⟨k2, [some (.int .i64 (ti (frm r1))), some (.int .i64 2), some (.int .i64 1), some (.int .i64 4), some (.int .i64 2)], 30⟩, ⟨k3, [some (.int .i64 (ti (frm r1))), some (.int .i64 2), some (.int .i64 1), some (.int .i64 0), some (.int .i64 0)], 30⟩, ⟨k4, [some (.int .i64 (ti (frm r1))), some (.int .i64 2), some (.int .i64 1), some (.int .i64 4), some (.int .i64 0), some (.int .i64 1), some (.int .i64 1), some (.int .i64 1), some (.int .i64 0), some (.int .i64 0)], 30⟩, ⟨k5, [some (.int .i64 (ti (frm r1))), some (.int .i64 (ti (frm r2))), some (.int .i64 1), some (.int .i64 4), some (.int .i64 2)], 30⟩, ⟨k6, [some (.int .i64 (ti (frm r1))), some (.int .i64 2), some (.int .i64 (ti (frm r2))), some (.int .i64 4), some (.int .i64 2)], 30⟩, ⟨k7, [some (.int .i64 (ti (frm r1))), some (.int .i64 2), some (.int .i64 1), some (.int .i64 (ti (frm r2))), some (.int .i64 2)], 30⟩, ⟨k8, [some (.int .i64 (ti (frm r1))), some (.int .i64 2), some (.int .i64 1), some (.int .i64 4), some (.int .i64 (ti (frm r2)))], 30⟩, ⟨k9, [some (.int .i64 (ti (frm r1))), some (.int .i64 2), some (.int .i64 1), some (.int .i64 4), some (.int .i64 2), some (.int .i64 1), some (.int .i64 1), some (.int .i64 1), some (.int .i64 0), some (.int .i64 0)], 30⟩, ⟨k10, [some (.int .i64 (ti (frm r1))), some (.int .i64 (ti (frm r2))), some (.int .i64 1), some (.int .i64 4), some (.int .i64 2), some (.int .i64 1), some (.int .i64 1), some (.int .i64 1), some (.int .i64 0), some (.int .i64 0)], 30⟩, ⟨k11, [some (.int .i64 (ti (frm r1))), some (.int .i64 2), some (.int .i64 (ti (frm r2))), some (.int .i64 4), some (.int .i64 2), some (.int .i64 1), some (.int .i64 1), some (.int .i64 1), some (.int .i64 0), some (.int .i64 0)], 30⟩, ⟨k12, [some (.int .i64 (ti (frm r1))), some (.int .i64 2), some (.int .i64 1), some (.int .i64 (ti (frm r2))), some (.int .i64 2), some (.int .i64 1), some (.int .i64 1), some (.int .i64 1), some (.int .i64 0), some (.int .i64 0)], 30⟩, ⟨k13, [some (.int .i64 (ti (frm r1))), some (.int .i64 2), some (.int .i64 1), some (.int .i64 4), some (.int .i64 (ti (frm r2))), some (.int .i64 1), some (.int .i64 1), some (.int .i64 1), some (.int .i64 0), some (.int .i64 0)], 30⟩]) rfl HS.out ?_
          refine lin_val (i := 0) (v := .int .i64 (ti (frm r2))) rfl rfl (by rfl) (by intro x hx; go_simp; (first | done | exact rfl)) ?_
          simp only [List.set_cons_succ, List.set_cons_zero]
          refine lin_val (i := 1) (v := .int .i64 (ti ((frm r2) + 1#64))) rfl rfl (by rfl) (by intro x hx; exact (show _ = Result.ok (Next.value (.int .i64 (IntKind.i64.wrap ((ti (frm r2) : Int) + (1))))) x by kernel_rfl).trans (by rw [show (1 : Int) = ti 1#64 from by decide, addIT (frm r2) 1#64])) ?_
          simp only [List.set_cons_succ, List.set_cons_zero]
          refine lin_val (i := 2) (v := .int .i64 (ti ((frm r2) + 1#64))) rfl rfl (by rfl) (by intro x hx; go_simp; (first | done | exact rfl)) ?_
          simp only [List.set_cons_succ, List.set_cons_zero]
          refine lin_done ?_
          intro W20 hx
          replace HS := hid hx
          clear hx
          go_wp2
          rw [frm_next r2]
          exact ⟨hlt2, hid ⟨_, _, _, _, _, _, _, _, _, _, _, _, _, _, _, _, _, _, _, _, _, _, _, _, _, _, _, _, _, _, _, _, _, _, _, _, _, _, _, _, _, _, _, _, _, _, _, _, _, _, _, _, _, _, _, _, _, _, _, _, _, _, _, _, _, _, _, _, _, _, _, _, _, _, _, _, _, rfl, (HS.out.cut 1)⟩⟩
    · have hN2 := hid (show r2 = 68 by omega)
      -- region 6
      go_upto_region 6 with fail
      refine lin_begin (St w [⟨k1, [some (.int .i64 1), some (.int .i64 1), some (.int .i64 1), some (.int .i64 0), some (.int .i64 0)], 30⟩]) rfl HS.out ?_
      refine lin_val (i := 0) (v := .int .i64 (ti (frm r2))) rfl rfl (by rfl) (by intro x hx; go_simp; (first | done | exact rfl)) ?_
      simp only [List.set_cons_succ, List.set_cons_zero]
      refine lin_val (i := 1) (v := .bool false) rfl rfl (by rfl) (by intro x hx; go_simp; (first | done | (first | exact Int.not_lt.1 (of_decide_eq_false (frm_ge (m := 67#64) (n := 68) hN2.out (by decide) (by decide))) | exact frm_ge (m := 67#64) (n := 68) hN2.out (by decide) (by decide) | exact eq_of_beq (frm_ge (m := 67#64) (n := 68) hN2.out (by decide) (by decide)) | exact congrArg _ (frm_ge (m := 67#64) (n := 68) hN2.out (by decide) (by decide)) | (rw [frm_ge (m := 67#64) (n := 68) hN2.out (by decide) (by decide)]; done) | ((first | rfl | exact ltIT (frm r2) 67#64 | exact congrArg _ (ltIT (frm r2) 67#64) | (rw [ltIT (frm r2) 67#64]; done) | (rw [ltIT (frm r2) 67#64]; rfl)); rw [frm_ge (m := 67#64) (n := 68) hN2.out (by decide) (by decide)]) | exact congrArg tn (eq_of_beq (frm_ge (m := 67#64) (n := 68) hN2.out (by decide) (by decide))) | exact congrArg ti (eq_of_beq (frm_ge (m := 67#64) (n := 68) hN2.out (by decide) (by decide))) | exact congrArg tn (eq_of_bne (frm_ge (m := 67#64) (n := 68) hN2.out (by decide) (by decide))) | simpa using (frm_ge (m := 67#64) (n := 68) hN2.out (by decide) (by decide))))) ?_
      simp only [List.set_cons_succ, List.set_cons_zero]
      refine lin_done ?_
      intro W5 hx
      replace HS := hid hx
      clear hx
      -- region 4
      go_upto_region 4 with fail
      refine lin_begin (St w [⟨k1, [some (.int .i64 1), some (.int .i64 1), some (.int .i64 1), some (.int .i64 0), some (.int .i64 0)], 30⟩]) rfl HS.out ?_
      refine lin_val (i := 0) (v := .int .i64 (ti (frm r1))) rfl rfl (by rfl) (by intro x hx; go_simp; (first | done | exact rfl)) ?_
      simp only [List.set_cons_succ, List.set_cons_zero]
      refine lin_val (i := 1) (v := .int .i64 (ti ((frm r1) + 1#64))) rfl rfl (by rfl) (by intro x hx; exact (show _ = Result.ok (Next.value (.int .i64 (IntKind.i64.wrap ((ti (frm r1) : Int) + (1))))) x by kernel_rfl).trans (by rw [show (1 : Int) = ti 1#64 from by decide, addIT (frm r1) 1#64])) ?_
      simp only [List.set_cons_succ, List.set_cons_zero]
      refine lin_val (i := 2) (v := .int .i64 (ti ((frm r1) + 1#64))) rfl rfl (by rfl) (by intro x hx; go_simp; (first | done | exact rfl)) ?_
      simp only [List.set_cons_succ, List.set_cons_zero]
      refine lin_done ?_
      intro W6 hx
      replace HS := hid hx
      clear hx
      go_wp2
      rw [frm_next r1]
      exact ⟨hlt1, hid ⟨_, _, _, _, _, _, _, _, _, _, _, _, _, _, _, _, _, _, _, _, _, _, _, _, _, _, _, _, _, _, _, _, _, _, _, _, _, _, _, _, _, _, _, _, _, _, _, _, _, _, _, _, _, _, _, _, _, _, _, _, _, _, _, _, _, _, _, _, _, _, _, _, _, _, _, _, _, _, _, _, _, _, rfl, (HS.out.cut 1)⟩⟩
  · have hN1 := hid (show r1 = 14 by omega)
    -- region 3
    go_upto_region 3 with fail
    refine lin_begin (St w [⟨k1, [some (.int .i64 1), some (.int .i64 1), some (.int .i64 1), some (.int .i64 0), some (.int .i64 0)], 30⟩]) rfl HS.out ?_
    refine lin_val (i := 0) (v := .int .i64 (ti (frm r1))) rfl rfl (by rfl) (by intro x hx; go_simp; (first | done | exact rfl)) ?_
    simp only [List.set_cons_succ, List.set_cons_zero]
    refine lin_val (i := 1) (v := .bool false) rfl rfl (by rfl) (by intro x hx; go_simp; (first | done | (first | exact Int.not_lt.1 (of_decide_eq_false (frm_ge (m := 13#64) (n := 14) hN1.out (by decide) (by decide))) | exact frm_ge (m := 13#64) (n := 14) hN1.out (by decide) (by decide) | exact eq_of_beq (frm_ge (m := 13#64) (n := 14) hN1.out (by decide) (by decide)) | exact congrArg _ (frm_ge (m := 13#64) (n := 14) hN1.out (by decide) (by decide)) | (rw [frm_ge (m := 13#64) (n := 14) hN1.out (by decide) (by decide)]; done) | ((first | rfl | exact ltIT (frm r1) 13#64 | exact congrArg _ (ltIT (frm r1) 13#64) | (rw [ltIT (frm r1) 13#64]; done) | (rw [ltIT (frm r1) 13#64]; rfl)); rw [frm_ge (m := 13#64) (n := 14) hN1.out (by decide) (by decide)]) | exact congrArg tn (eq_of_beq (frm_ge (m := 13#64) (n := 14) hN1.out (by decide) (by decide))) | exact congrArg ti (eq_of_beq (frm_ge (m := 13#64) (n := 14) hN1.out (by decide) (by decide))) | exact congrArg tn (eq_of_bne (frm_ge (m := 13#64) (n := 14) hN1.out (by decide) (by decide))) | simpa using (frm_ge (m := 13#64) (n := 14) hN1.out (by decide) (by decide))))) ?_
    simp only [List.set_cons_succ, List.set_cons_zero]
    refine lin_done ?_
    intro W3 hx
    replace HS := hid hx
    clear hx
    obtain ⟨i0, hi, hz0, hz1, hz2⟩ := info_parts infoIn
    have c0 := HS.out.load 0 0 rfl rfl
    have c1 := HS.out.load 0 1 rfl rfl
    have c2 := HS.out.load 0 2 rfl rfl
    have c3 := HS.out.load 0 3 rfl rfl
    have c4 := HS.out.load 0 4 rfl rfl
    have hk1 := (HS.out.own _ (List.mem_cons_self ..)).2.lt
    have HWB := hid HS.out.below
    have hws := HWB.out.size
    simp only at hk1
    obtain ⟨G, hG⟩ : ∃ G, G = W3.heap.size := ⟨_, rfl⟩
    go_wp2_with (at_make; refine wpList_make_full _ rfl _ _ 22 rfl W3.heap.size 30 i0 (.agg #[.int .i64 0, .int .i64 0, .int .i64 0, .int .i64 0, .int .i64 0]) 5 Tryd.underlying22 hi hz0 hz1 .i64 .i64 _ _ 10 rfl rfl rfl rfl (by rw [hz2]; omega) (by unfold maxLen; omega) (Nat.le_refl _) ?_; intro w1 hown1 hgrow1)
    rw [made_is] at hown1
    have hb1 : Below W3.heap.size W3 w1 := ⟨hgrow1.os, hgrow1.tape, hgrow1.output, hgrow1.size, fun k hk => hgrow1.block k hk (by simp)⟩
    rw [← hG] at hown1 hb1 hk1 hws ⊢
    have HOW := hid hown1
    have HB1 := hid hb1
    have HC := hid (show ∀ wr, Below G W3 wr → wr.cell? ⟨k1, 0, none⟩ = some (.int .i64 1) ∧ wr.cell? ⟨k1, 1, none⟩ = some (.int .i64 1) ∧ wr.cell? ⟨k1, 2, none⟩ = some (.int .i64 1) ∧ wr.cell? ⟨k1, 3, none⟩ = some (.int .i64 0) ∧ wr.cell? ⟨k1, 4, none⟩ = some (.int .i64 0) from fun wr hb => ⟨(hb.cell (show k1 < G from hk1)).trans c0, (hb.cell (show k1 < G from hk1)).trans c1, (hb.cell (show k1 < G from hk1)).trans c2, (hb.cell (show k1 < G from hk1)).trans c3, (hb.cell (show k1 < G from hk1)).trans c4⟩)
    have HGE := hid hG
    clear hown1 hb1 hgrow1 c0 c1 c2 c3 c4 hG
    go_wp2
    go_loopw [10] (fun i wr => ∃ k : Nat, k ≤ 10 ∧ i = .int .i64 k ∧ wr.ownsRow G 30 5 (.slice (some ⟨G, 0, none⟩) 10 10) 10 (VN (fillN k)) ∧ Below G W3 wr) (fun i _ => 10 - (intOf i).toNat)
    case atStart => exact ⟨0, Nat.zero_le _, rfl, HOW.out, HB1.out⟩
    case round =>
      obtain ⟨k, hk, rfl, hown, hbel⟩ := hrel
      obtain ⟨d0, d1, d2, d3, d4⟩ := HC.out wr hbel
      by_cases hlt : k < 10
      · obtain ⟨u0, e0⟩ := own_some hown (k * 5) (by omega)
        obtain ⟨u1, e1⟩ := own_some hown (k * 5 + 1) (by omega)
        obtain ⟨u2, e2⟩ := own_some hown (k * 5 + 2) (by omega)
        obtain ⟨u3, e3⟩ := own_some hown (k * 5 + 3) (by omega)
        obtain ⟨u4, e4⟩ := own_some hown (k * 5 + 4) (by omega)
        have f0 := hown.frozenAt (k * 5)
        have f1 := hown.frozenAt (k * 5 + 1)
        have f2 := hown.frozenAt (k * 5 + 2)
        have f3 := hown.frozenAt (k * 5 + 3)
        have f4 := hown.frozenAt (k * 5 + 4)
        have s0 := hown.stored (k * 5) (.int .i64 1)
        have s1 := s0.1.stored (k * 5 + 1) (.int .i64 1)
        have s2 := s1.1.stored (k * 5 + 2) (.int .i64 1)
        have s3 := s2.1.stored (k * 5 + 3) (.int .i64 0)
        have s4 := s3.1.stored (k * 5 + 4) (.int .i64 0)
        have hv := VN_set (fillN k) k In1 (by rw [fill_len hk]; exact hlt)
        rw [fill_set hlt] at hv
        have HF := hid (show _ from hv ▸ s4.1)
        have HBL := hid (((((hbel.setCell (p := ⟨G, k * 5, none⟩) (show G ≤ G from Nat.le_refl _) (.int .i64 1)).setCell (p := ⟨G, k * 5 + 1, none⟩) (show G ≤ G from Nat.le_refl _) (.int .i64 1)).setCell (p := ⟨G, k * 5 + 2, none⟩) (show G ≤ G from Nat.le_refl _) (.int .i64 1)).setCell (p := ⟨G, k * 5 + 3, none⟩) (show G ≤ G from Nat.le_refl _) (.int .i64 0)).setCell (p := ⟨G, k * 5 + 4, none⟩) (show G ≤ G from Nat.le_refl _) (.int .i64 0))
        have hk0 : (0 : Int) ≤ (k : Int) := by omega
        have hk10 : (k : Int) < 10 := by omega
        clear s0 s1 s2 s3 s4 hown hbel hv
        go_wp2
        go_roundw
        case rel => exact ⟨k + 1, by omega, by go_num, HF.out, HBL.out⟩
        case measure => simp [intOf]; omega
      · have hkn : k = 10 := by omega
        have HO := hid (show wr.ownsRow G 30 5 (.slice (some ⟨G, 0, none⟩) 10 10) 10 (VN (fillN 10)) from by rw [hkn] at hown; exact hown)
        have HBL := hid hbel
        have HWR := hid (HWB.out.trans (hbel.mono hws))
        have hge : ¬ ((k : Int) < 10) := by omega
        clear hkn hown hbel
        have HCK := hid (check_fill (W := wr) (cap := 10) (show ArgN wr (some ⟨G, 0, none⟩) 10 (fillN 10) from by
          obtain ⟨a, c, hv, ha⟩ := own_argN HO.out
          injection hv with hv1 _ _
          rw [hv1]
          exact ha) (HT.out.up HWR.out))
        go_wp2_with fail
        refine HCK.out.mono ?_
        rintro e w2 ⟨rfl, hb2⟩
        have HO2 := hid (HO.out.kept (grown_of3 (r := none) hb2) (Classical.em _))
        have HBL2 := hid (HBL.out.trans (hb2.mono (show G ≤ wr.heap.size by rw [HGE.out]; exact HBL.out.size)))
        have hs2 := HBL2.out.size
        obtain ⟨d0, d1, d2, d3, d4⟩ := HC.out w2 HBL2.out
        have HWR2 := hid (HWB.out.trans (HBL2.out.mono hws))
        clear hb2
        have hGs : G ≤ w2.heap.size := by rw [HGE.out]; exact hs2
        go_wp2_with (at_builtin; refine wpList_appD _ rfl _ _ rfl G _ 10 (fillN 10) rfl (HO2.out.alloc _) ⟨w2.heap.size, 0, none⟩ 1 In1 rfl (five_new _ _ _ _ _ _ _) (by omega) (by simp; omega) ?_)
        intro v' w3 hown4 hgrow3
        have HBL3 := hid ((HBL2.out.alloc hGs (.cells #[.int .i64 1, .int .i64 1, .int .i64 1, .int .i64 0, .int .i64 0] 30)).grown hgrow3 (by simp; omega) (fun q hq => (HO2.out.alloc (.cells #[.int .i64 1, .int .i64 1, .int .i64 1, .int .i64 0, .int .i64 0] 30)).lt q hq |>.1))
        have HWR3 := hid (HWB.out.trans (HBL3.out.mono hws))
        obtain ⟨a3, c3, rfl, ha3⟩ := own_argN hown4
        have HA3 := hid ha3
        clear hown4 hgrow3 ha3
        go_wp2_with fail
        refine (check_more (cap := c3) HA3.out (HT.out.up HWR3.out)).mono ?_
        rintro e w4 ⟨rfl, hb4⟩
        have HWR4 := hid (HWR3.out.trans (hb4.mono HWR3.out.size))
        clear hb4
        go_wp2_with fail
        refine (law_works_any w4 (HT.out.up HWR4.out)).mono ?_
        rintro e w5 ⟨rfl, hb5⟩
        have HWR5 := hid (HWR4.out.trans (hb5.mono HWR4.out.size))
        clear hb5
        go_wp2_with fail
        go_ret
        exact ⟨rfl, HWR5.out⟩
end Go.Proofs.YtejcjjimhaokfaaDoor.Dcl
