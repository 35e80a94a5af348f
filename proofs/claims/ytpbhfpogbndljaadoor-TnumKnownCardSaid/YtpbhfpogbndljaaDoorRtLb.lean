/-
  The document's sums and differences of tnums.
-/
import Derived.Deep.DeepCutAuto
import Derived.Test.YtpbhfpogbndljaaDoorRtL
namespace Go.Proofs.YtpbhfpogbndljaaDoor.Rt
open Go.RowKit Go.Proofs.YtpbhfpogbndljaaDoor.Num Go.Proofs.YtpbhfpogbndljaaDoor.Up
set_option maxRecDepth 100000 in
set_option maxHeartbeats 8000000 in
theorem ref_carried_bor3 (x0 : P) (x1 : P)   (w : World) :
    Calls Tryd.prog 45 #[vU x0, vU x1, .bool true] w fun e w' => e = .returned (vU (tnumB (sumB bor3 (ofB x0) (ofB x1)))) ∧ Below w.heap.size w w' := by
  have hz48 := zero_48
  simp only [vU]
  go_enter Tryd.func45, Tryd.ntmps45
  have HS : Hid (St w [⟨w.heap.size, [some (.int .u64 (tn (x0.lo))), some (.int .u64 (tn (x0.hi)))], 24⟩, ⟨w.heap.size + 1, [some (.int .u64 (tn (x1.lo))), some (.int .u64 (tn (x1.hi)))], 24⟩, ⟨w.heap.size + 2, [some (.int .u64 0), some (.int .u64 0)], 24⟩] _) := hid ((((st_nil w).alloc (k := w.heap.size) rfl [.int .u64 (tn (x0.lo)), .int .u64 (tn (x0.hi))] 24).alloc (k := w.heap.size + 1) (by simp) [.int .u64 (tn (x1.lo)), .int .u64 (tn (x1.hi))] 24).alloc (k := w.heap.size + 2) (by simp) [.int .u64 0, .int .u64 0] 24)
  go_upto_region 1 with fail
  refine lnb HS.out rfl ?_
  refine lv 0 (vU x0) rfl rfl (by intro x hx; obtain ⟨f0, f1⟩ := hx.two 0 0 rfl rfl; go_simp; (first | done | exact rfl)) ?_
  simp only [sA, sB, vU]
  refine lc 1 43 #[vU x0] (.agg (fnV 128 (two 64 (ofB x0).Z (ofB x0).O)).toArray) rfl rfl (by intro x hx; exact ref_Of_any x0 _) ?_
  simp only [sA, sB]
  refine lin_new (i := 2) rfl rfl (by rfl) (fnV 128 (fun _ => false)) 48 (fun k => .pointer (some ⟨k, 0, none⟩)) ((fnV 128 (fun _ => false)).map some) (lessC_refl _) (by intro x hx; go_simp; (first | done | exact rfl)) (fun k1 => ?_)
  simp only [sA, sB, sC, sD]
  refine lin_store (i := 3) (St w [⟨w.heap.size, [some (.int .u64 (tn (x0.lo))), some (.int .u64 (tn (x0.hi)))], 24⟩, ⟨w.heap.size + 1, [some (.int .u64 (tn (x1.lo))), some (.int .u64 (tn (x1.hi)))], 24⟩, ⟨w.heap.size + 2, [some (.int .u64 0), some (.int .u64 0)], 24⟩, ⟨k1, ((fnV 128 (two 64 (ofB x0).Z (ofB x0).O)).map some), 48⟩]) rfl rfl (by rfl) (fun x => x.setCells k1 0 (fnV 128 (two 64 (ofB x0).Z (ofB x0).O))) (by intro x hx; exact storeF hx 3 rfl (by simp [fnV_len]) (fnV_one _ _) rfl rfl rfl (fun w => by rw [fnV_len]; kernel_rfl)) (fun x hx => hx.putF 3 _ rfl (by simp [fnV_len])) ?_
  clear HS
  refine ld fun W1 HS => ?_
  go_upto_region 2 with fail
  refine lnb HS.out rfl ?_
  refine lv 0 (vU x1) rfl rfl (by intro x hx; obtain ⟨f0, f1⟩ := hx.two 1 0 rfl rfl; go_simp; (first | done | exact rfl)) ?_
  simp only [sA, sB, vU]
  refine lc 1 43 #[vU x1] (.agg (fnV 128 (two 64 (ofB x1).Z (ofB x1).O)).toArray) rfl rfl (by intro x hx; exact ref_Of_any x1 _) ?_
  simp only [sA, sB]
  refine lin_new (i := 2) rfl rfl (by rfl) (fnV 128 (fun _ => false)) 48 (fun k => .pointer (some ⟨k, 0, none⟩)) ((fnV 128 (fun _ => false)).map some) (lessC_refl _) (by intro x hx; go_simp; (first | done | exact rfl)) (fun k2 => ?_)
  simp only [sA, sB, sC, sD]
  refine lin_store (i := 3) (St w [⟨w.heap.size, [some (.int .u64 (tn (x0.lo))), some (.int .u64 (tn (x0.hi)))], 24⟩, ⟨w.heap.size + 1, [some (.int .u64 (tn (x1.lo))), some (.int .u64 (tn (x1.hi)))], 24⟩, ⟨w.heap.size + 2, [some (.int .u64 0), some (.int .u64 0)], 24⟩, ⟨k1, ((fnV 128 (two 64 (ofB x0).Z (ofB x0).O)).map some), 48⟩, ⟨k2, ((fnV 128 (two 64 (ofB x1).Z (ofB x1).O)).map some), 48⟩]) rfl rfl (by rfl) (fun x => x.setCells k2 0 (fnV 128 (two 64 (ofB x1).Z (ofB x1).O))) (by intro x hx; exact storeF hx 4 rfl (by simp [fnV_len]) (fnV_one _ _) rfl rfl rfl (fun w => by rw [fnV_len]; kernel_rfl)) (fun x hx => hx.putF 4 _ rfl (by simp [fnV_len])) ?_
  clear HS
  refine ld fun W2 HS => ?_
  go_upto_region 3 with fail
  refine lnb HS.out rfl ?_
  refine lin_new (i := 0) rfl rfl (by rfl) (fnV 128 (fun _ => false)) 48 (fun k => .pointer (some ⟨k, 0, none⟩)) ((fnV 128 (fun _ => false)).map some) (lessC_refl _) (by intro x hx; go_simp; (first | done | exact rfl)) (fun k3 => ?_)
  simp only [sA, sB, sC, sD]
  clear HS
  refine ld fun W3 HS => ?_
  go_upto_region 4 with fail
  refine lnb HS.out rfl ?_
  refine lv 0 (.agg #[.bool true, .bool false]) rfl rfl (by intro x hx; go_simp; (first | done | exact rfl)) ?_
  simp only [sA, sB]
  refine lin_new (i := 1) rfl rfl (by rfl) [.bool false, .bool false] 60 (fun k => .pointer (some ⟨k, 0, none⟩)) [some (.bool false), some (.bool false)] (lessC_refl _) (by intro x hx; go_simp; (first | done | exact rfl)) (fun k4 => ?_)
  simp only [sA, sB, sC, sD]
  refine ls 2 6 0 [.bool true, .bool false] rfl rfl rfl (by intro x hx; obtain ⟨⟨_, z0, q0⟩, ⟨_, z1, q1⟩⟩ := hx.at2 6 0 rfl; go_simp; (first | done | rfl)) ?_
  simp only [Blk.putC, setM, sA, sB]
  clear HS
  refine ld fun W4 HS => ?_
  go_upto_region 5 with fail
  refine lnb HS.out rfl ?_
  refine lv 0 (.int .i64 0) rfl rfl (by intro x hx; go_simp; (first | done | exact rfl)) ?_
  simp only [sA, sB]
  clear HS
  refine ld fun W5 HS => ?_
  go_wp2
  refine loop_up 64 (fun k a W => Hid (∃ u1_12 u1_13 u1_14 u1_15 u1_16 u1_17 u1_18 u1_24 u1_25 u1_26 u1_27 u1_28 u1_29 u1_30 u1_31 u1_32 u1_33 u1_34 u1_35 u1_36 u1_37 u1_38 u1_39 u1_40 u1_41 u1_42 u1_43 u1_44 u1_45 u1_46 u1_47 u1_48 u1_49 u1_50 u1_51 u1_52 u1_53 u1_54 u1_55 u1_56 u1_57 u1_58 u1_59 u1_60 u1_61 u1_62 u1_63 u1_64 u1_65 u1_66 u1_67 u1_68 u1_69 u1_70 u1_71 u1_72 u1_73 u1_74 u1_75 u1_76 u1_77 u1_78 u1_79 u1_80 u1_81 u1_82 u1_83 u1_84 u1_85 u1_86 u1_87 : Value, a = Act.mk [vU x0, vU x1, .bool true, .pointer (some ⟨w.heap.size, 0, none⟩), .pointer (some ⟨w.heap.size + 1, 0, none⟩), undef, .pointer (some ⟨w.heap.size + 2, 0, none⟩), .pointer (some ⟨k1, 0, none⟩), .pointer (some ⟨k2, 0, none⟩), .pointer (some ⟨k3, 0, none⟩), .pointer (some ⟨k4, 0, none⟩), .int .i64 ((k : Nat) : Int), u1_12, u1_13, u1_14, u1_15, u1_16, u1_17, u1_18, vU x0, .agg (fnV 128 (two 64 (ofB x0).Z (ofB x0).O)).toArray, vU x1, .agg (fnV 128 (two 64 (ofB x1).Z (ofB x1).O)).toArray, .agg #[.bool true, .bool false], u1_24, u1_25, u1_26, u1_27, u1_28, u1_29, u1_30, u1_31, u1_32, u1_33, u1_34, u1_35, u1_36, u1_37, u1_38, u1_39, u1_40, u1_41, u1_42, u1_43, u1_44, u1_45, u1_46, u1_47, u1_48, u1_49, u1_50, u1_51, u1_52, u1_53, u1_54, u1_55, u1_56, u1_57, u1_58, u1_59, u1_60, u1_61, u1_62, u1_63, u1_64, u1_65, u1_66, u1_67, u1_68, u1_69, u1_70, u1_71, u1_72, u1_73, u1_74, u1_75, u1_76, u1_77, u1_78, u1_79, u1_80, u1_81, u1_82, u1_83, u1_84, u1_85, u1_86, u1_87, undef, undef].toArray [] ∧ St w [⟨w.heap.size, [some (.int .u64 (tn (x0.lo))), some (.int .u64 (tn (x0.hi)))], 24⟩, ⟨w.heap.size + 1, [some (.int .u64 (tn (x1.lo))), some (.int .u64 (tn (x1.hi)))], 24⟩, ⟨w.heap.size + 2, [some (.int .u64 0), some (.int .u64 0)], 24⟩, ⟨k1, ((fnV 128 (two 64 (ofB x0).Z (ofB x0).O)).map some), 48⟩, ⟨k2, ((fnV 128 (two 64 (ofB x1).Z (ofB x1).O)).map some), 48⟩, ⟨k3, ((fnV 128 (two 64 (upto k (sumB bor3 (ofB x0) (ofB x1)).Z) (upto k (sumB bor3 (ofB x0) (ofB x1)).O))).map some), 48⟩, ⟨k4, [some (.bool ((cars bor3 (ofB x0) (ofB x1) k).1)), some (.bool ((cars bor3 (ofB x0) (ofB x1) k).2))], 60⟩] W)) (hid ⟨(undef), (undef), (undef), (undef), (undef), (undef), (undef), (undef), (undef), (undef), (undef), (undef), (undef), (undef), (undef), (undef), (undef), (undef), (undef), (undef), (undef), (undef), (undef), (undef), (undef), (undef), (undef), (undef), (undef), (undef), (undef), (undef), (undef), (undef), (undef), (undef), (undef), (undef), (undef), (undef), (undef), (undef), (undef), (undef), (undef), (undef), (undef), (undef), (undef), (undef), (undef), (undef), (undef), (undef), (undef), (undef), (undef), (undef), (undef), (undef), (undef), (undef), (undef), (undef), (undef), (undef), (undef), (undef), (undef), (undef), (undef), rfl, (by have h := HS.out; rw [← bits_none (sumB bor3 (ofB x0) (ofB x1)).Z (sumB bor3 (ofB x0) (ofB x1)).O] at h; exact h)⟩) (fun r1 a W hr hR => ?_)
  obtain ⟨u1_12, u1_13, u1_14, u1_15, u1_16, u1_17, u1_18, u1_24, u1_25, u1_26, u1_27, u1_28, u1_29, u1_30, u1_31, u1_32, u1_33, u1_34, u1_35, u1_36, u1_37, u1_38, u1_39, u1_40, u1_41, u1_42, u1_43, u1_44, u1_45, u1_46, u1_47, u1_48, u1_49, u1_50, u1_51, u1_52, u1_53, u1_54, u1_55, u1_56, u1_57, u1_58, u1_59, u1_60, u1_61, u1_62, u1_63, u1_64, u1_65, u1_66, u1_67, u1_68, u1_69, u1_70, u1_71, u1_72, u1_73, u1_74, u1_75, u1_76, u1_77, u1_78, u1_79, u1_80, u1_81, u1_82, u1_83, u1_84, u1_85, u1_86, u1_87, rfl, hS⟩ := hR.out
  replace HS := hid hS
  clear hS hR
  by_cases hlt1 : r1 < 64
  · -- round
    go_upto_region 6 with fail
    refine lnb HS.out rfl ?_
    refine lm 0 11 rfl rfl rfl rfl ?_
    simp only [sA, sB]
    refine lv 1 (.bool true) rfl rfl (by intro x hx; go_simp; (first | done | omega | (simp; omega))) ?_
    simp only [sA, sB]
    clear HS
    refine ld fun W6 HS => ?_
    go_upto_region 8 with fail
    refine lnb HS.out rfl ?_
    refine lv 0 (.agg #[.bool false, .bool false]) rfl rfl (by intro x hx; go_simp; (first | done | exact rfl)) ?_
    simp only [sA, sB]
    refine lin_new (i := 1) rfl rfl (by rfl) [.bool false, .bool false] 60 (fun k => .pointer (some ⟨k, 0, none⟩)) [some (.bool false), some (.bool false)] (lessC_refl _) (by intro x hx; go_simp; (first | done | exact rfl)) (fun k5 => ?_)
    simp only [sA, sB, sC, sD]
    refine ls 2 7 0 [.bool false, .bool false] rfl rfl rfl (by intro x hx; obtain ⟨⟨_, z0, q0⟩, ⟨_, z1, q1⟩⟩ := hx.at2 7 0 rfl; go_simp; (first | done | rfl)) ?_
    simp only [Blk.putC, setM, sA, sB]
    clear HS
    refine ld fun W7 HS => ?_
    go_upto_region 9 with fail
    refine lnb HS.out rfl ?_
    refine lv 0 (.int .i64 0) rfl rfl (by intro x hx; go_simp; (first | done | exact rfl)) ?_
    simp only [sA, sB]
    clear HS
    refine ld fun W8 HS => ?_
    go_wp2
    refine loop_up 8 (fun k a W => Hid (∃ u2_14 u2_15 u2_16 u2_17 u2_18 u2_29 u2_30 u2_31 u2_32 u2_33 u2_34 u2_35 u2_36 u2_37 u2_38 u2_39 u2_40 u2_41 u2_42 u2_43 u2_44 u2_45 u2_46 u2_47 u2_48 u2_49 u2_50 u2_51 u2_52 u2_53 u2_54 u2_55 u2_56 u2_57 u2_58 u2_59 u2_60 u2_61 u2_62 u2_63 u2_64 u2_65 u2_66 u2_67 u2_68 u2_69 u2_70 u2_71 u2_72 u2_73 u2_74 u2_75 u2_76 u2_77 u2_78 u2_79 u2_80 u2_81 u2_82 u2_83 u2_84 u2_85 u2_86 : Value, a = Act.mk [vU x0, vU x1, .bool true, .pointer (some ⟨w.heap.size, 0, none⟩), .pointer (some ⟨w.heap.size + 1, 0, none⟩), undef, .pointer (some ⟨w.heap.size + 2, 0, none⟩), .pointer (some ⟨k1, 0, none⟩), .pointer (some ⟨k2, 0, none⟩), .pointer (some ⟨k3, 0, none⟩), .pointer (some ⟨k4, 0, none⟩), .int .i64 ((r1 : Nat) : Int), .pointer (some ⟨k5, 0, none⟩), .int .i64 ((k : Nat) : Int), u2_14, u2_15, u2_16, u2_17, u2_18, vU x0, .agg (fnV 128 (two 64 (ofB x0).Z (ofB x0).O)).toArray, vU x1, .agg (fnV 128 (two 64 (ofB x1).Z (ofB x1).O)).toArray, .agg #[.bool true, .bool false], .int .i64 ((r1 : Nat) : Int), .bool true, u1_26, u1_27, .agg #[.bool false, .bool false], u2_29, u2_30, u2_31, u2_32, u2_33, u2_34, u2_35, u2_36, u2_37, u2_38, u2_39, u2_40, u2_41, u2_42, u2_43, u2_44, u2_45, u2_46, u2_47, u2_48, u2_49, u2_50, u2_51, u2_52, u2_53, u2_54, u2_55, u2_56, u2_57, u2_58, u2_59, u2_60, u2_61, u2_62, u2_63, u2_64, u2_65, u2_66, u2_67, u2_68, u2_69, u2_70, u2_71, u2_72, u2_73, u2_74, u2_75, u2_76, u2_77, u2_78, u2_79, u2_80, u2_81, u2_82, u2_83, u2_84, u2_85, u2_86, u1_87, undef, undef].toArray [] ∧ St w [⟨w.heap.size, [some (.int .u64 (tn (x0.lo))), some (.int .u64 (tn (x0.hi)))], 24⟩, ⟨w.heap.size + 1, [some (.int .u64 (tn (x1.lo))), some (.int .u64 (tn (x1.hi)))], 24⟩, ⟨w.heap.size + 2, [some (.int .u64 0), some (.int .u64 0)], 24⟩, ⟨k1, ((fnV 128 (two 64 (ofB x0).Z (ofB x0).O)).map some), 48⟩, ⟨k2, ((fnV 128 (two 64 (ofB x1).Z (ofB x1).O)).map some), 48⟩, ⟨k3, ((fnV 128 (two 64 (upd (upto r1 (sumB bor3 (ofB x0) (ofB x1)).Z) r1 (someTo (fun p q c => !odd3 p q c) (ofB x0) (ofB x1) (cars bor3 (ofB x0) (ofB x1) r1) r1 k)) (upd (upto r1 (sumB bor3 (ofB x0) (ofB x1)).O) r1 (someTo odd3 (ofB x0) (ofB x1) (cars bor3 (ofB x0) (ofB x1) r1) r1 k)))).map some), 48⟩, ⟨k4, [some (.bool ((cars bor3 (ofB x0) (ofB x1) r1).1)), some (.bool ((cars bor3 (ofB x0) (ofB x1) r1).2))], 60⟩, ⟨k5, [some (.bool ((someTo (fun p q c => !bor3 p q c) (ofB x0) (ofB x1) (cars bor3 (ofB x0) (ofB x1) r1) r1 k))), some (.bool ((someTo bor3 (ofB x0) (ofB x1) (cars bor3 (ofB x0) (ofB x1) r1) r1 k)))], 60⟩] W)) (hid ⟨(u1_14), (u1_15), (u1_16), (u1_17), (u1_18), (u1_29), (u1_30), (u1_31), (u1_32), (u1_33), (u1_34), (u1_35), (u1_36), (u1_37), (u1_38), (u1_39), (u1_40), (u1_41), (u1_42), (u1_43), (u1_44), (u1_45), (u1_46), (u1_47), (u1_48), (u1_49), (u1_50), (u1_51), (u1_52), (u1_53), (u1_54), (u1_55), (u1_56), (u1_57), (u1_58), (u1_59), (u1_60), (u1_61), (u1_62), (u1_63), (u1_64), (u1_65), (u1_66), (u1_67), (u1_68), (u1_69), (u1_70), (u1_71), (u1_72), (u1_73), (u1_74), (u1_75), (u1_76), (u1_77), (u1_78), (u1_79), (u1_80), (u1_81), (u1_82), (u1_83), (u1_84), (u1_85), (u1_86), rfl, (by have h := HS.out; rw [← upd_false (F := (sumB bor3 (ofB x0) (ofB x1)).Z), ← upd_false (F := (sumB bor3 (ofB x0) (ofB x1)).O)] at h; exact h)⟩) (fun r2 a W hr hR => ?_)
    obtain ⟨u2_14, u2_15, u2_16, u2_17, u2_18, u2_29, u2_30, u2_31, u2_32, u2_33, u2_34, u2_35, u2_36, u2_37, u2_38, u2_39, u2_40, u2_41, u2_42, u2_43, u2_44, u2_45, u2_46, u2_47, u2_48, u2_49, u2_50, u2_51, u2_52, u2_53, u2_54, u2_55, u2_56, u2_57, u2_58, u2_59, u2_60, u2_61, u2_62, u2_63, u2_64, u2_65, u2_66, u2_67, u2_68, u2_69, u2_70, u2_71, u2_72, u2_73, u2_74, u2_75, u2_76, u2_77, u2_78, u2_79, u2_80, u2_81, u2_82, u2_83, u2_84, u2_85, u2_86, rfl, hS⟩ := hR.out
    replace HS := hid hS
    clear hS hR
    by_cases hlt2 : r2 < 8
    · have hc : r2 = 0 ∨ r2 = 1 ∨ r2 = 2 ∨ r2 = 3 ∨ r2 = 4 ∨ r2 = 5 ∨ r2 = 6 ∨ r2 = 7 := by omega
      rcases hc with rfl | rfl | rfl | rfl | rfl | rfl | rfl | rfl
      · rw [show ((0 : Nat) : Int) = 0 from rfl]
        go_upto_region 10 with fail
        refine lnb HS.out rfl ?_
        refine lm 0 13 rfl rfl rfl rfl ?_
        simp only [sA, sB]
        refine lv 1 (.bool true) rfl rfl (by intro x hx; go_simp; (first | done | exact rfl)) ?_
        simp only [sA, sB]
        clear HS
        refine ld fun W9 HS => ?_
        go_upto_region 12 with fail
        refine lnb HS.out rfl ?_
        refine lm 0 13 rfl rfl rfl rfl ?_
        simp only [sA, sB]
        refine lv 1 (.int .i64 0) rfl rfl (by intro x hx; go_simp; (first | done | exact rfl)) ?_
        simp only [sA, sB]
        refine la 2 34 rfl rfl rfl rfl ?_
        simp only [sA, sB]
        clear HS
        refine ld fun W10 HS => ?_
        go_upto_region 13 with fail
        refine lnb HS.out rfl ?_
        refine lm 0 13 rfl rfl rfl rfl ?_
        simp only [sA, sB]
        refine lv 1 (.int .i64 0) rfl rfl (by intro x hx; go_simp; (first | done | exact rfl)) ?_
        simp only [sA, sB]
        refine lv 2 (.int .i64 0) rfl rfl (by intro x hx; go_simp; (first | done | exact rfl)) ?_
        simp only [sA, sB]
        refine la 3 37 rfl rfl rfl rfl ?_
        simp only [sA, sB]
        clear HS
        refine ld fun W11 HS => ?_
        go_upto_region 14 with fail
        refine lnb HS.out rfl ?_
        refine lm 0 13 rfl rfl rfl rfl ?_
        simp only [sA, sB]
        refine lv 1 (.int .i64 0) rfl rfl (by intro x hx; go_simp; (first | done | exact rfl)) ?_
        simp only [sA, sB]
        refine la 2 39 rfl rfl rfl rfl ?_
        simp only [sA, sB]
        clear HS
        refine ld fun W12 HS => ?_
        go_upto_region 15 with fail
        refine lnb HS.out rfl ?_
        refine lv 0 (.agg (fnV 128 (two 64 (ofB x0).Z (ofB x0).O)).toArray) rfl rfl (by intro x hx; exact loadF hx 3 rfl rfl rfl (fun w => by kernel_rfl) (fun w => by kernel_rfl)) ?_
        simp only [sA, sB]
        refine lm 1 11 rfl rfl rfl rfl ?_
        simp only [sA, sB]
        refine lm 2 14 rfl rfl rfl rfl ?_
        simp only [sA, sB]
        refine lc 3 51 #[.agg (fnV 128 (two 64 (ofB x0).Z (ofB x0).O)).toArray, .int .i64 ((r1 : Nat) : Int), .int .i64 0] (.bool ((ofB x0).Z r1)) rfl rfl (by intro x hx; exact ref_may_0 (ofB x0) r1 (by omega) _) ?_
        simp only [sA, sB]
        refine lv 4 (.bool ((!((ofB x0).Z r1)))) rfl rfl (by intro x hx; go_simp; (first | done | exact rfl)) ?_
        simp only [sA, sB]
        refine lm 5 44 rfl rfl rfl rfl ?_
        simp only [sA, sB]
        refine lin_if (i := 6) (v := .agg (fnV 128 (two 64 (ofB x1).Z (ofB x1).O)).toArray) (!(!((ofB x0).Z r1))) rfl rfl (by generalize (!((ofB x0).Z r1)) = gg0; cases gg0 <;> rfl) (by intro hb; have hb177 := hid (show ((!((ofB x0).Z r1))) = false from nnb hb); intro x hx; (try simp only [hb]); (try simp only [cond_true]); exact loadF hx 4 rfl rfl rfl (fun w => by kernel_rfl) (fun w => by kernel_rfl)) ?_
        simp only [sA, sB]
        refine lin_if (i := 7) (v := .int .i64 ((r1 : Nat) : Int)) (!(!((ofB x0).Z r1))) rfl rfl (by generalize (!((ofB x0).Z r1)) = gg0; cases gg0 <;> rfl) (by intro hb; have hb178 := hid (show ((!((ofB x0).Z r1))) = false from nnb hb); intro x hx; (try simp only [hb]); (try simp only [cond_true]); go_simp; (first | done | exact rfl)) ?_
        simp only [sA, sB]
        refine lin_if (i := 8) (v := .int .i64 0) (!(!((ofB x0).Z r1))) rfl rfl (by generalize (!((ofB x0).Z r1)) = gg0; cases gg0 <;> rfl) (by intro hb; have hb179 := hid (show ((!((ofB x0).Z r1))) = false from nnb hb); intro x hx; (try simp only [hb]); (try simp only [cond_true]); go_simp; (first | done | exact rfl)) ?_
        simp only [sA, sB]
        refine lin_if_call (i := 9) (f := 51) (args := #[.agg (fnV 128 (two 64 (ofB x1).Z (ofB x1).O)).toArray, .int .i64 ((r1 : Nat) : Int), .int .i64 0]) (v := .bool ((ofB x1).Z r1)) (!(!((ofB x0).Z r1))) (st_ups _ _) rfl rfl (by generalize (!((ofB x0).Z r1)) = gg0; cases gg0 <;> rfl) (by intro hb; have hb180 := hid (show ((!((ofB x0).Z r1))) = false from nnb hb); intro x hx; (try simp only [hb]); (try simp only [cond_true]); kernel_rfl) (by intro hb; have hb180 := hid (show ((!((ofB x0).Z r1))) = false from nnb hb); intro x hx; exact ref_may_0 (ofB x1) r1 (by omega) _) ?_
        simp only [sA, sB]
        refine lin_if (i := 10) (v := .bool ((!((ofB x1).Z r1)))) (!(!((ofB x0).Z r1))) rfl rfl (by generalize (!((ofB x0).Z r1)) = gg0; cases gg0 <;> rfl) (by intro hb; have hb181 := hid (show ((!((ofB x0).Z r1))) = false from nnb hb); intro x hx; (try simp only [hb]); (try simp only [cond_true]); go_simp; (first | done | exact rfl)) ?_
        simp only [sA, sB]
        refine lv 11 (.bool ((bif (!((ofB x0).Z r1)) then true else (!((ofB x1).Z r1))))) rfl rfl (by intro x hx; (cases hq : ((!((ofB x0).Z r1))) <;> first | rfl | (simp only [hq]; rfl) | simp [hq])) ?_
        simp only [sA, sB]
        refine lm 12 51 rfl rfl rfl rfl ?_
        simp only [sA, sB]
        refine lin_if (i := 13) (v := .int .i64 0) (!(bif (!((ofB x0).Z r1)) then true else (!((ofB x1).Z r1)))) rfl rfl (by generalize (bif (!((ofB x0).Z r1)) then true else (!((ofB x1).Z r1))) = gg0; cases gg0 <;> rfl) (by intro hb; have hb182 := hid (show ((bif (!((ofB x0).Z r1)) then true else (!((ofB x1).Z r1)))) = false from nnb hb); intro x hx; (try simp only [hb]); (try simp only [cond_true]); go_simp; (first | done | exact rfl)) ?_
        simp only [sA, sB]
        refine lin_if (i := 14) (v := .pointer (some ⟨k4, 0, none⟩)) (!(bif (!((ofB x0).Z r1)) then true else (!((ofB x1).Z r1)))) rfl rfl (by generalize (bif (!((ofB x0).Z r1)) then true else (!((ofB x1).Z r1))) = gg0; cases gg0 <;> rfl) (by intro hb; have hb183 := hid (show ((bif (!((ofB x0).Z r1)) then true else (!((ofB x1).Z r1)))) = false from nnb hb); intro x hx; (try simp only [hb]); (try simp only [cond_true]); go_simp; (first | done | exact rfl)) ?_
        simp only [sA, sB]
        refine lin_if (i := 15) (v := .bool ((cars bor3 (ofB x0) (ofB x1) r1).1)) (!(bif (!((ofB x0).Z r1)) then true else (!((ofB x1).Z r1)))) rfl rfl (by generalize (bif (!((ofB x0).Z r1)) then true else (!((ofB x1).Z r1))) = gg0; cases gg0 <;> rfl) (by intro hb; have hb184 := hid (show ((bif (!((ofB x0).Z r1)) then true else (!((ofB x1).Z r1)))) = false from nnb hb); intro x hx; (try simp only [hb]); (try simp only [cond_true]); have f0 := hx.load 6 0 rfl rfl; go_simp; (first | done | exact rfl)) ?_
        simp only [sA, sB]
        refine lin_if (i := 16) (v := .bool ((!((cars bor3 (ofB x0) (ofB x1) r1).1)))) (!(bif (!((ofB x0).Z r1)) then true else (!((ofB x1).Z r1)))) rfl rfl (by generalize (bif (!((ofB x0).Z r1)) then true else (!((ofB x1).Z r1))) = gg0; cases gg0 <;> rfl) (by intro hb; have hb185 := hid (show ((bif (!((ofB x0).Z r1)) then true else (!((ofB x1).Z r1)))) = false from nnb hb); intro x hx; (try simp only [hb]); (try simp only [cond_true]); go_simp; (first | done | exact rfl)) ?_
        simp only [sA, sB]
        refine lv 17 (.bool ((bif (bif (!((ofB x0).Z r1)) then true else (!((ofB x1).Z r1))) then true else (!((cars bor3 (ofB x0) (ofB x1) r1).1))))) rfl rfl (by intro x hx; (cases hq : ((bif (!((ofB x0).Z r1)) then true else (!((ofB x1).Z r1)))) <;> first | rfl | (simp only [hq]; rfl) | simp [hq])) ?_
        simp only [sA, sB]
        clear HS
        refine ld fun W13 HS => ?_
        cases h1 : ((bif (bif (!((ofB x0).Z r1)) then true else (!((ofB x1).Z r1))) then true else (!((cars bor3 (ofB x0) (ofB x1) r1).1))))
        ·replace h1 := hid h1
         go_upto_region 16 with fail
         refine lnb HS.out rfl ?_
         refine lm 0 14 rfl rfl rfl rfl ?_
         simp only [sA, sB]
         refine lm 1 15 rfl rfl rfl rfl ?_
         simp only [sA, sB]
         refine lv 2 (.int .i64 0) rfl rfl (by intro x hx; go_simp; (first | done | exact rfl)) ?_
         simp only [sA, sB]
         refine lm 3 16 rfl rfl rfl rfl ?_
         simp only [sA, sB]
         refine lv 4 (.int .i64 0) rfl rfl (by intro x hx; go_simp; (first | done | exact rfl)) ?_
         simp only [sA, sB]
         refine la 5 62 rfl rfl rfl rfl ?_
         simp only [sA, sB]
         clear HS
         refine ld fun W14 HS => ?_
         go_upto_region 17 with fail
         refine lnb HS.out rfl ?_
         refine lm 0 2 rfl rfl rfl rfl ?_
         simp only [sA, sB]
         clear HS
         refine ld fun W15 HS => ?_
         go_upto_region 18 with fail
         refine lnb HS.out rfl ?_
         refine lm 0 14 rfl rfl rfl rfl ?_
         simp only [sA, sB]
         refine lm 1 15 rfl rfl rfl rfl ?_
         simp only [sA, sB]
         refine lv 2 (.int .i64 0) rfl rfl (by intro x hx; go_simp; (first | done | exact rfl)) ?_
         simp only [sA, sB]
         refine lm 3 16 rfl rfl rfl rfl ?_
         simp only [sA, sB]
         refine lv 4 (.int .i64 0) rfl rfl (by intro x hx; go_simp; (first | done | exact rfl)) ?_
         simp only [sA, sB]
         refine lv 5 (.int .i64 4) rfl rfl (by intro x hx; go_simp; (first | done | exact rfl)) ?_
         simp only [sA, sB]
         refine la 6 69 rfl rfl rfl rfl ?_
         simp only [sA, sB]
         clear HS
         refine ld fun W16 HS => ?_
         go_upto_region 19 with fail
         refine lnb HS.out rfl ?_
         refine lm 0 17 rfl rfl rfl rfl ?_
         simp only [sA, sB]
         refine lv 1 (.int .i64 0) rfl rfl (by intro x hx; go_simp; (first | done | exact rfl)) ?_
         simp only [sA, sB]
         refine lv 2 (.bool false) rfl rfl (by intro x hx; go_simp; (first | done | exact rfl)) ?_
         simp only [sA, sB]
         clear HS
         refine ld fun W17 HS => ?_
         go_upto_region 21 with fail
         refine lnb HS.out rfl ?_
         refine lm 0 11 rfl rfl rfl rfl ?_
         simp only [sA, sB]
         refine lv 1 (.pointer (some ⟨k3, 0, none⟩)) rfl rfl (by intro x hx; go_simp; (first | done | exact rfl)) ?_
         simp only [sA, sB]
         refine lv 2 (.pointer (some ⟨k3, r1, none⟩)) rfl rfl (by intro x hx; go_simp; first | (rw [if_pos (by omega)]; done) | (rw [if_pos (by omega)]; rfl) | (intro hq; exfalso; omega) | (simp; omega)) ?_
         simp only [sA, sB]
         refine lin_store (i := 3) (St w [⟨w.heap.size, [some (.int .u64 (tn (x0.lo))), some (.int .u64 (tn (x0.hi)))], 24⟩, ⟨w.heap.size + 1, [some (.int .u64 (tn (x1.lo))), some (.int .u64 (tn (x1.hi)))], 24⟩, ⟨w.heap.size + 2, [some (.int .u64 0), some (.int .u64 0)], 24⟩, ⟨k1, ((fnV 128 (two 64 (ofB x0).Z (ofB x0).O)).map some), 48⟩, ⟨k2, ((fnV 128 (two 64 (ofB x1).Z (ofB x1).O)).map some), 48⟩, ⟨k3, ((fnV 128 (upd (two 64 (upd (upto r1 (sumB bor3 (ofB x0) (ofB x1)).Z) r1 (someTo (fun p q c => !odd3 p q c) (ofB x0) (ofB x1) (cars bor3 (ofB x0) (ofB x1) r1) r1 0)) (upd (upto r1 (sumB bor3 (ofB x0) (ofB x1)).O) r1 (someTo odd3 (ofB x0) (ofB x1) (cars bor3 (ofB x0) (ofB x1) r1) r1 0))) r1 true)).map some), 48⟩, ⟨k4, [some (.bool ((cars bor3 (ofB x0) (ofB x1) r1).1)), some (.bool ((cars bor3 (ofB x0) (ofB x1) r1).2))], 60⟩, ⟨k5, [some (.bool ((someTo (fun p q c => !bor3 p q c) (ofB x0) (ofB x1) (cars bor3 (ofB x0) (ofB x1) r1) r1 0))), some (.bool ((someTo bor3 (ofB x0) (ofB x1) (cars bor3 (ofB x0) (ofB x1) r1) r1 0)))], 60⟩]) rfl rfl (by rfl) (fun x => x.setCell ⟨k3, r1, none⟩ (.bool true)) (by intro x hx; have z0 := hx.fn 5 (r1) rfl (by omega); have q0 := hx.soft 5 (r1) rfl; go_simp; (first | done | rfl)) (fun x hx => hx.fnset 5 (r1) true rfl) ?_
         clear HS
         refine ld fun W18 HS => ?_
         go_upto_region 22 with fail
         refine lnb HS.out rfl ?_
         refine lm 0 17 rfl rfl rfl rfl ?_
         simp only [sA, sB]
         refine lv 1 (.bool true) rfl rfl (by intro x hx; go_simp; (first | done | exact rfl)) ?_
         simp only [sA, sB]
         refine la 2 80 rfl rfl rfl rfl ?_
         simp only [sA, sB]
         clear HS
         refine ld fun W19 HS => ?_
         go_upto_region 23 with fail
         refine lnb HS.out rfl ?_
         refine lm 0 2 rfl rfl rfl rfl ?_
         simp only [sA, sB]
         clear HS
         refine ld fun W20 HS => ?_
         go_upto_region 24 with fail
         refine lnb HS.out rfl ?_
         refine lm 0 17 rfl rfl rfl rfl ?_
         simp only [sA, sB]
         refine lv 1 (.bool false) rfl rfl (by intro x hx; go_simp; (first | done | exact rfl)) ?_
         simp only [sA, sB]
         refine la 2 83 rfl rfl rfl rfl ?_
         simp only [sA, sB]
         clear HS
         refine ld fun W21 HS => ?_
         go_upto_region 25 with fail
         refine lnb HS.out rfl ?_
         refine lm 0 18 rfl rfl rfl rfl ?_
         simp only [sA, sB]
         clear HS
         refine ld fun W22 HS => ?_
         go_upto_region 27 with fail
         refine lnb HS.out rfl ?_
         refine lv 0 (.pointer (some ⟨k5, 0, none⟩)) rfl rfl (by intro x hx; go_simp; (first | done | exact rfl)) ?_
         simp only [sA, sB]
         refine ls 1 7 0 [.bool true] rfl rfl rfl (by intro x hx; obtain ⟨_, z0, q0⟩ := hx.at1 7 0 rfl; go_simp; (first | done | rfl)) ?_
         simp only [Blk.putC, setM, sA, sB]
         clear HS
         refine ld fun W23 HS => ?_
         go_upto_region 11 with fail
         refine lnb HS.out rfl ?_
         refine lm 0 13 rfl rfl rfl rfl ?_
         simp only [sA, sB]
         refine lv 1 (.int .i64 1) rfl rfl (by intro x hx; go_simp; (first | done | exact rfl)) ?_
         simp only [sA, sB]
         refine la 2 32 rfl rfl rfl rfl ?_
         simp only [sA, sB]
         clear HS
         refine ld fun W24 HS => ?_
         go_wp2
         exact ⟨hlt2, hid ⟨_, _, _, _, _, _, _, _, _, _, _, _, _, _, _, _, _, _, _, _, _, _, _, _, _, _, _, _, _, _, _, _, _, _, _, _, _, _, _, _, _, _, _, _, _, _, _, _, _, _, _, _, _, _, _, _, _, _, _, _, _, _, _, rfl, (by have h := HS.out; rw [upd_lo (by omega), upd_upd] at h; rw [to_true (f := (fun p q c => !odd3 p q c)) (x := (ofB x0)) (y := (ofB x1)) (c := (cars bor3 (ofB x0) (ofB x1) r1)) (r := r1) (k := 0) ((turn_yes (f := (fun p q c => !odd3 p q c)) (p := false) (q := false) (c := false) h1.out).trans rfl), to_same (f := odd3) (x := (ofB x0)) (y := (ofB x1)) (c := (cars bor3 (ofB x0) (ofB x1) r1)) (r := r1) (k := 0) ((turn_yes (f := odd3) (p := false) (q := false) (c := false) h1.out).trans rfl), to_true (f := (fun p q c => !bor3 p q c)) (x := (ofB x0)) (y := (ofB x1)) (c := (cars bor3 (ofB x0) (ofB x1) r1)) (r := r1) (k := 0) ((turn_yes (f := (fun p q c => !bor3 p q c)) (p := false) (q := false) (c := false) h1.out).trans rfl), to_same (f := bor3) (x := (ofB x0)) (y := (ofB x1)) (c := (cars bor3 (ofB x0) (ofB x1) r1)) (r := r1) (k := 0) ((turn_yes (f := bor3) (p := false) (q := false) (c := false) h1.out).trans rfl)]; exact h)⟩⟩
        ·replace h1 := hid h1
         go_upto_region 11 with fail
         refine lnb HS.out rfl ?_
         refine lm 0 13 rfl rfl rfl rfl ?_
         simp only [sA, sB]
         refine lv 1 (.int .i64 1) rfl rfl (by intro x hx; go_simp; (first | done | exact rfl)) ?_
         simp only [sA, sB]
         refine la 2 32 rfl rfl rfl rfl ?_
         simp only [sA, sB]
         clear HS
         refine ld fun W14 HS => ?_
         go_wp2
         exact ⟨hlt2, hid ⟨_, _, _, _, _, _, _, _, _, _, _, _, _, _, _, _, _, _, _, _, _, _, _, _, _, _, _, _, _, _, _, _, _, _, _, _, _, _, _, _, _, _, _, _, _, _, _, _, _, _, _, _, _, _, _, _, _, _, _, _, _, _, _, rfl, (by rw [to_same (f := (fun p q c => !odd3 p q c)) (x := (ofB x0)) (y := (ofB x1)) (c := (cars bor3 (ofB x0) (ofB x1) r1)) (r := r1) (k := 0) (turn_no (f := (fun p q c => !odd3 p q c)) (p := false) (q := false) (c := false) h1.out), to_same (f := odd3) (x := (ofB x0)) (y := (ofB x1)) (c := (cars bor3 (ofB x0) (ofB x1) r1)) (r := r1) (k := 0) (turn_no (f := odd3) (p := false) (q := false) (c := false) h1.out), to_same (f := (fun p q c => !bor3 p q c)) (x := (ofB x0)) (y := (ofB x1)) (c := (cars bor3 (ofB x0) (ofB x1) r1)) (r := r1) (k := 0) (turn_no (f := (fun p q c => !bor3 p q c)) (p := false) (q := false) (c := false) h1.out), to_same (f := bor3) (x := (ofB x0)) (y := (ofB x1)) (c := (cars bor3 (ofB x0) (ofB x1) r1)) (r := r1) (k := 0) (turn_no (f := bor3) (p := false) (q := false) (c := false) h1.out)]; exact HS.out)⟩⟩
      · rw [show ((1 : Nat) : Int) = 1 from rfl]
        go_upto_region 10 with fail
        refine lnb HS.out rfl ?_
        refine lm 0 13 rfl rfl rfl rfl ?_
        simp only [sA, sB]
        refine lv 1 (.bool true) rfl rfl (by intro x hx; go_simp; (first | done | exact rfl)) ?_
        simp only [sA, sB]
        clear HS
        refine ld fun W9 HS => ?_
        go_upto_region 12 with fail
        refine lnb HS.out rfl ?_
        refine lm 0 13 rfl rfl rfl rfl ?_
        simp only [sA, sB]
        refine lv 1 (.int .i64 1) rfl rfl (by intro x hx; go_simp; (first | done | exact rfl)) ?_
        simp only [sA, sB]
        refine la 2 34 rfl rfl rfl rfl ?_
        simp only [sA, sB]
        clear HS
        refine ld fun W10 HS => ?_
        go_upto_region 13 with fail
        refine lnb HS.out rfl ?_
        refine lm 0 13 rfl rfl rfl rfl ?_
        simp only [sA, sB]
        refine lv 1 (.int .i64 0) rfl rfl (by intro x hx; go_simp; (first | done | exact rfl)) ?_
        simp only [sA, sB]
        refine lv 2 (.int .i64 0) rfl rfl (by intro x hx; go_simp; (first | done | exact rfl)) ?_
        simp only [sA, sB]
        refine la 3 37 rfl rfl rfl rfl ?_
        simp only [sA, sB]
        clear HS
        refine ld fun W11 HS => ?_
        go_upto_region 14 with fail
        refine lnb HS.out rfl ?_
        refine lm 0 13 rfl rfl rfl rfl ?_
        simp only [sA, sB]
        refine lv 1 (.int .i64 0) rfl rfl (by intro x hx; go_simp; (first | done | exact rfl)) ?_
        simp only [sA, sB]
        refine la 2 39 rfl rfl rfl rfl ?_
        simp only [sA, sB]
        clear HS
        refine ld fun W12 HS => ?_
        go_upto_region 15 with fail
        refine lnb HS.out rfl ?_
        refine lv 0 (.agg (fnV 128 (two 64 (ofB x0).Z (ofB x0).O)).toArray) rfl rfl (by intro x hx; exact loadF hx 3 rfl rfl rfl (fun w => by kernel_rfl) (fun w => by kernel_rfl)) ?_
        simp only [sA, sB]
        refine lm 1 11 rfl rfl rfl rfl ?_
        simp only [sA, sB]
        refine lm 2 14 rfl rfl rfl rfl ?_
        simp only [sA, sB]
        refine lc 3 51 #[.agg (fnV 128 (two 64 (ofB x0).Z (ofB x0).O)).toArray, .int .i64 ((r1 : Nat) : Int), .int .i64 1] (.bool ((ofB x0).O r1)) rfl rfl (by intro x hx; exact ref_may_1 (ofB x0) r1 (by omega) _) ?_
        simp only [sA, sB]
        refine lv 4 (.bool ((!((ofB x0).O r1)))) rfl rfl (by intro x hx; go_simp; (first | done | exact rfl)) ?_
        simp only [sA, sB]
        refine lm 5 44 rfl rfl rfl rfl ?_
        simp only [sA, sB]
        refine lin_if (i := 6) (v := .agg (fnV 128 (two 64 (ofB x1).Z (ofB x1).O)).toArray) (!(!((ofB x0).O r1))) rfl rfl (by generalize (!((ofB x0).O r1)) = gg0; cases gg0 <;> rfl) (by intro hb; have hb186 := hid (show ((!((ofB x0).O r1))) = false from nnb hb); intro x hx; (try simp only [hb]); (try simp only [cond_true]); exact loadF hx 4 rfl rfl rfl (fun w => by kernel_rfl) (fun w => by kernel_rfl)) ?_
        simp only [sA, sB]
        refine lin_if (i := 7) (v := .int .i64 ((r1 : Nat) : Int)) (!(!((ofB x0).O r1))) rfl rfl (by generalize (!((ofB x0).O r1)) = gg0; cases gg0 <;> rfl) (by intro hb; have hb187 := hid (show ((!((ofB x0).O r1))) = false from nnb hb); intro x hx; (try simp only [hb]); (try simp only [cond_true]); go_simp; (first | done | exact rfl)) ?_
        simp only [sA, sB]
        refine lin_if (i := 8) (v := .int .i64 0) (!(!((ofB x0).O r1))) rfl rfl (by generalize (!((ofB x0).O r1)) = gg0; cases gg0 <;> rfl) (by intro hb; have hb188 := hid (show ((!((ofB x0).O r1))) = false from nnb hb); intro x hx; (try simp only [hb]); (try simp only [cond_true]); go_simp; (first | done | exact rfl)) ?_
        simp only [sA, sB]
        refine lin_if_call (i := 9) (f := 51) (args := #[.agg (fnV 128 (two 64 (ofB x1).Z (ofB x1).O)).toArray, .int .i64 ((r1 : Nat) : Int), .int .i64 0]) (v := .bool ((ofB x1).Z r1)) (!(!((ofB x0).O r1))) (st_ups _ _) rfl rfl (by generalize (!((ofB x0).O r1)) = gg0; cases gg0 <;> rfl) (by intro hb; have hb189 := hid (show ((!((ofB x0).O r1))) = false from nnb hb); intro x hx; (try simp only [hb]); (try simp only [cond_true]); kernel_rfl) (by intro hb; have hb189 := hid (show ((!((ofB x0).O r1))) = false from nnb hb); intro x hx; exact ref_may_0 (ofB x1) r1 (by omega) _) ?_
        simp only [sA, sB]
        refine lin_if (i := 10) (v := .bool ((!((ofB x1).Z r1)))) (!(!((ofB x0).O r1))) rfl rfl (by generalize (!((ofB x0).O r1)) = gg0; cases gg0 <;> rfl) (by intro hb; have hb190 := hid (show ((!((ofB x0).O r1))) = false from nnb hb); intro x hx; (try simp only [hb]); (try simp only [cond_true]); go_simp; (first | done | exact rfl)) ?_
        simp only [sA, sB]
        refine lv 11 (.bool ((bif (!((ofB x0).O r1)) then true else (!((ofB x1).Z r1))))) rfl rfl (by intro x hx; (cases hq : ((!((ofB x0).O r1))) <;> first | rfl | (simp only [hq]; rfl) | simp [hq])) ?_
        simp only [sA, sB]
        refine lm 12 51 rfl rfl rfl rfl ?_
        simp only [sA, sB]
        refine lin_if (i := 13) (v := .int .i64 0) (!(bif (!((ofB x0).O r1)) then true else (!((ofB x1).Z r1)))) rfl rfl (by generalize (bif (!((ofB x0).O r1)) then true else (!((ofB x1).Z r1))) = gg0; cases gg0 <;> rfl) (by intro hb; have hb191 := hid (show ((bif (!((ofB x0).O r1)) then true else (!((ofB x1).Z r1)))) = false from nnb hb); intro x hx; (try simp only [hb]); (try simp only [cond_true]); go_simp; (first | done | exact rfl)) ?_
        simp only [sA, sB]
        refine lin_if (i := 14) (v := .pointer (some ⟨k4, 0, none⟩)) (!(bif (!((ofB x0).O r1)) then true else (!((ofB x1).Z r1)))) rfl rfl (by generalize (bif (!((ofB x0).O r1)) then true else (!((ofB x1).Z r1))) = gg0; cases gg0 <;> rfl) (by intro hb; have hb192 := hid (show ((bif (!((ofB x0).O r1)) then true else (!((ofB x1).Z r1)))) = false from nnb hb); intro x hx; (try simp only [hb]); (try simp only [cond_true]); go_simp; (first | done | exact rfl)) ?_
        simp only [sA, sB]
        refine lin_if (i := 15) (v := .bool ((cars bor3 (ofB x0) (ofB x1) r1).1)) (!(bif (!((ofB x0).O r1)) then true else (!((ofB x1).Z r1)))) rfl rfl (by generalize (bif (!((ofB x0).O r1)) then true else (!((ofB x1).Z r1))) = gg0; cases gg0 <;> rfl) (by intro hb; have hb193 := hid (show ((bif (!((ofB x0).O r1)) then true else (!((ofB x1).Z r1)))) = false from nnb hb); intro x hx; (try simp only [hb]); (try simp only [cond_true]); have f0 := hx.load 6 0 rfl rfl; go_simp; (first | done | exact rfl)) ?_
        simp only [sA, sB]
        refine lin_if (i := 16) (v := .bool ((!((cars bor3 (ofB x0) (ofB x1) r1).1)))) (!(bif (!((ofB x0).O r1)) then true else (!((ofB x1).Z r1)))) rfl rfl (by generalize (bif (!((ofB x0).O r1)) then true else (!((ofB x1).Z r1))) = gg0; cases gg0 <;> rfl) (by intro hb; have hb194 := hid (show ((bif (!((ofB x0).O r1)) then true else (!((ofB x1).Z r1)))) = false from nnb hb); intro x hx; (try simp only [hb]); (try simp only [cond_true]); go_simp; (first | done | exact rfl)) ?_
        simp only [sA, sB]
        refine lv 17 (.bool ((bif (bif (!((ofB x0).O r1)) then true else (!((ofB x1).Z r1))) then true else (!((cars bor3 (ofB x0) (ofB x1) r1).1))))) rfl rfl (by intro x hx; (cases hq : ((bif (!((ofB x0).O r1)) then true else (!((ofB x1).Z r1)))) <;> first | rfl | (simp only [hq]; rfl) | simp [hq])) ?_
        simp only [sA, sB]
        clear HS
        refine ld fun W13 HS => ?_
        cases h1 : ((bif (bif (!((ofB x0).O r1)) then true else (!((ofB x1).Z r1))) then true else (!((cars bor3 (ofB x0) (ofB x1) r1).1))))
        ·replace h1 := hid h1
         go_upto_region 16 with fail
         refine lnb HS.out rfl ?_
         refine lm 0 14 rfl rfl rfl rfl ?_
         simp only [sA, sB]
         refine lm 1 15 rfl rfl rfl rfl ?_
         simp only [sA, sB]
         refine lv 2 (.int .i64 1) rfl rfl (by intro x hx; go_simp; (first | done | exact rfl)) ?_
         simp only [sA, sB]
         refine lm 3 16 rfl rfl rfl rfl ?_
         simp only [sA, sB]
         refine lv 4 (.int .i64 1) rfl rfl (by intro x hx; go_simp; (first | done | exact rfl)) ?_
         simp only [sA, sB]
         refine la 5 62 rfl rfl rfl rfl ?_
         simp only [sA, sB]
         clear HS
         refine ld fun W14 HS => ?_
         go_upto_region 17 with fail
         refine lnb HS.out rfl ?_
         refine lm 0 2 rfl rfl rfl rfl ?_
         simp only [sA, sB]
         clear HS
         refine ld fun W15 HS => ?_
         go_upto_region 18 with fail
         refine lnb HS.out rfl ?_
         refine lm 0 14 rfl rfl rfl rfl ?_
         simp only [sA, sB]
         refine lm 1 15 rfl rfl rfl rfl ?_
         simp only [sA, sB]
         refine lv 2 (.int .i64 1) rfl rfl (by intro x hx; go_simp; (first | done | exact rfl)) ?_
         simp only [sA, sB]
         refine lm 3 16 rfl rfl rfl rfl ?_
         simp only [sA, sB]
         refine lv 4 (.int .i64 1) rfl rfl (by intro x hx; go_simp; (first | done | exact rfl)) ?_
         simp only [sA, sB]
         refine lv 5 (.int .i64 5) rfl rfl (by intro x hx; go_simp; (first | done | exact rfl)) ?_
         simp only [sA, sB]
         refine la 6 69 rfl rfl rfl rfl ?_
         simp only [sA, sB]
         clear HS
         refine ld fun W16 HS => ?_
         go_upto_region 19 with fail
         refine lnb HS.out rfl ?_
         refine lm 0 17 rfl rfl rfl rfl ?_
         simp only [sA, sB]
         refine lv 1 (.int .i64 1) rfl rfl (by intro x hx; go_simp; (first | done | exact rfl)) ?_
         simp only [sA, sB]
         refine lv 2 (.bool true) rfl rfl (by intro x hx; go_simp; (first | done | exact rfl)) ?_
         simp only [sA, sB]
         clear HS
         refine ld fun W17 HS => ?_
         go_upto_region 20 with fail
         refine lnb HS.out rfl ?_
         refine lm 0 11 rfl rfl rfl rfl ?_
         simp only [sA, sB]
         refine lv 1 (.pointer (some ⟨k3, 64, none⟩)) rfl rfl (by intro x hx; go_simp; (first | done | exact rfl)) ?_
         simp only [sA, sB]
         refine lv 2 (.pointer (some ⟨k3, 64 + r1, none⟩)) rfl rfl (by intro x hx; go_simp; first | (rw [if_pos (by omega)]; done) | (rw [if_pos (by omega)]; rfl) | (intro hq; exfalso; omega) | (simp; omega)) ?_
         simp only [sA, sB]
         refine lin_store (i := 3) (St w [⟨w.heap.size, [some (.int .u64 (tn (x0.lo))), some (.int .u64 (tn (x0.hi)))], 24⟩, ⟨w.heap.size + 1, [some (.int .u64 (tn (x1.lo))), some (.int .u64 (tn (x1.hi)))], 24⟩, ⟨w.heap.size + 2, [some (.int .u64 0), some (.int .u64 0)], 24⟩, ⟨k1, ((fnV 128 (two 64 (ofB x0).Z (ofB x0).O)).map some), 48⟩, ⟨k2, ((fnV 128 (two 64 (ofB x1).Z (ofB x1).O)).map some), 48⟩, ⟨k3, ((fnV 128 (upd (two 64 (upd (upto r1 (sumB bor3 (ofB x0) (ofB x1)).Z) r1 (someTo (fun p q c => !odd3 p q c) (ofB x0) (ofB x1) (cars bor3 (ofB x0) (ofB x1) r1) r1 1)) (upd (upto r1 (sumB bor3 (ofB x0) (ofB x1)).O) r1 (someTo odd3 (ofB x0) (ofB x1) (cars bor3 (ofB x0) (ofB x1) r1) r1 1))) (64 + r1) true)).map some), 48⟩, ⟨k4, [some (.bool ((cars bor3 (ofB x0) (ofB x1) r1).1)), some (.bool ((cars bor3 (ofB x0) (ofB x1) r1).2))], 60⟩, ⟨k5, [some (.bool ((someTo (fun p q c => !bor3 p q c) (ofB x0) (ofB x1) (cars bor3 (ofB x0) (ofB x1) r1) r1 1))), some (.bool ((someTo bor3 (ofB x0) (ofB x1) (cars bor3 (ofB x0) (ofB x1) r1) r1 1)))], 60⟩]) rfl rfl (by rfl) (fun x => x.setCell ⟨k3, 64 + r1, none⟩ (.bool true)) (by intro x hx; have z0 := hx.fn 5 (64 + r1) rfl (by omega); have q0 := hx.soft 5 (64 + r1) rfl; go_simp; (first | done | rfl)) (fun x hx => hx.fnset 5 (64 + r1) true rfl) ?_
         clear HS
         refine ld fun W18 HS => ?_
         go_upto_region 22 with fail
         refine lnb HS.out rfl ?_
         refine lm 0 17 rfl rfl rfl rfl ?_
         simp only [sA, sB]
         refine lv 1 (.bool true) rfl rfl (by intro x hx; go_simp; (first | done | exact rfl)) ?_
         simp only [sA, sB]
         refine la 2 80 rfl rfl rfl rfl ?_
         simp only [sA, sB]
         clear HS
         refine ld fun W19 HS => ?_
         go_upto_region 23 with fail
         refine lnb HS.out rfl ?_
         refine lm 0 2 rfl rfl rfl rfl ?_
         simp only [sA, sB]
         clear HS
         refine ld fun W20 HS => ?_
         go_upto_region 24 with fail
         refine lnb HS.out rfl ?_
         refine lm 0 17 rfl rfl rfl rfl ?_
         simp only [sA, sB]
         refine lv 1 (.bool false) rfl rfl (by intro x hx; go_simp; (first | done | exact rfl)) ?_
         simp only [sA, sB]
         refine la 2 83 rfl rfl rfl rfl ?_
         simp only [sA, sB]
         clear HS
         refine ld fun W21 HS => ?_
         go_upto_region 25 with fail
         refine lnb HS.out rfl ?_
         refine lm 0 18 rfl rfl rfl rfl ?_
         simp only [sA, sB]
         clear HS
         refine ld fun W22 HS => ?_
         go_upto_region 27 with fail
         refine lnb HS.out rfl ?_
         refine lv 0 (.pointer (some ⟨k5, 0, none⟩)) rfl rfl (by intro x hx; go_simp; (first | done | exact rfl)) ?_
         simp only [sA, sB]
         refine ls 1 7 0 [.bool true] rfl rfl rfl (by intro x hx; obtain ⟨_, z0, q0⟩ := hx.at1 7 0 rfl; go_simp; (first | done | rfl)) ?_
         simp only [Blk.putC, setM, sA, sB]
         clear HS
         refine ld fun W23 HS => ?_
         go_upto_region 11 with fail
         refine lnb HS.out rfl ?_
         refine lm 0 13 rfl rfl rfl rfl ?_
         simp only [sA, sB]
         refine lv 1 (.int .i64 2) rfl rfl (by intro x hx; go_simp; (first | done | exact rfl)) ?_
         simp only [sA, sB]
         refine la 2 32 rfl rfl rfl rfl ?_
         simp only [sA, sB]
         clear HS
         refine ld fun W24 HS => ?_
         go_wp2
         exact ⟨hlt2, hid ⟨_, _, _, _, _, _, _, _, _, _, _, _, _, _, _, _, _, _, _, _, _, _, _, _, _, _, _, _, _, _, _, _, _, _, _, _, _, _, _, _, _, _, _, _, _, _, _, _, _, _, _, _, _, _, _, _, _, _, _, _, _, _, _, rfl, (by have h := HS.out; rw [upd_hi, upd_upd] at h; rw [to_same (f := (fun p q c => !odd3 p q c)) (x := (ofB x0)) (y := (ofB x1)) (c := (cars bor3 (ofB x0) (ofB x1) r1)) (r := r1) (k := 1) ((turn_yes (f := (fun p q c => !odd3 p q c)) (p := true) (q := false) (c := false) h1.out).trans rfl), to_true (f := odd3) (x := (ofB x0)) (y := (ofB x1)) (c := (cars bor3 (ofB x0) (ofB x1) r1)) (r := r1) (k := 1) ((turn_yes (f := odd3) (p := true) (q := false) (c := false) h1.out).trans rfl), to_true (f := (fun p q c => !bor3 p q c)) (x := (ofB x0)) (y := (ofB x1)) (c := (cars bor3 (ofB x0) (ofB x1) r1)) (r := r1) (k := 1) ((turn_yes (f := (fun p q c => !bor3 p q c)) (p := true) (q := false) (c := false) h1.out).trans rfl), to_same (f := bor3) (x := (ofB x0)) (y := (ofB x1)) (c := (cars bor3 (ofB x0) (ofB x1) r1)) (r := r1) (k := 1) ((turn_yes (f := bor3) (p := true) (q := false) (c := false) h1.out).trans rfl)]; exact h)⟩⟩
        ·replace h1 := hid h1
         go_upto_region 11 with fail
         refine lnb HS.out rfl ?_
         refine lm 0 13 rfl rfl rfl rfl ?_
         simp only [sA, sB]
         refine lv 1 (.int .i64 2) rfl rfl (by intro x hx; go_simp; (first | done | exact rfl)) ?_
         simp only [sA, sB]
         refine la 2 32 rfl rfl rfl rfl ?_
         simp only [sA, sB]
         clear HS
         refine ld fun W14 HS => ?_
         go_wp2
         exact ⟨hlt2, hid ⟨_, _, _, _, _, _, _, _, _, _, _, _, _, _, _, _, _, _, _, _, _, _, _, _, _, _, _, _, _, _, _, _, _, _, _, _, _, _, _, _, _, _, _, _, _, _, _, _, _, _, _, _, _, _, _, _, _, _, _, _, _, _, _, rfl, (by rw [to_same (f := (fun p q c => !odd3 p q c)) (x := (ofB x0)) (y := (ofB x1)) (c := (cars bor3 (ofB x0) (ofB x1) r1)) (r := r1) (k := 1) (turn_no (f := (fun p q c => !odd3 p q c)) (p := true) (q := false) (c := false) h1.out), to_same (f := odd3) (x := (ofB x0)) (y := (ofB x1)) (c := (cars bor3 (ofB x0) (ofB x1) r1)) (r := r1) (k := 1) (turn_no (f := odd3) (p := true) (q := false) (c := false) h1.out), to_same (f := (fun p q c => !bor3 p q c)) (x := (ofB x0)) (y := (ofB x1)) (c := (cars bor3 (ofB x0) (ofB x1) r1)) (r := r1) (k := 1) (turn_no (f := (fun p q c => !bor3 p q c)) (p := true) (q := false) (c := false) h1.out), to_same (f := bor3) (x := (ofB x0)) (y := (ofB x1)) (c := (cars bor3 (ofB x0) (ofB x1) r1)) (r := r1) (k := 1) (turn_no (f := bor3) (p := true) (q := false) (c := false) h1.out)]; exact HS.out)⟩⟩
      · rw [show ((2 : Nat) : Int) = 2 from rfl]
        go_upto_region 10 with fail
        refine lnb HS.out rfl ?_
        refine lm 0 13 rfl rfl rfl rfl ?_
        simp only [sA, sB]
        refine lv 1 (.bool true) rfl rfl (by intro x hx; go_simp; (first | done | exact rfl)) ?_
        simp only [sA, sB]
        clear HS
        refine ld fun W9 HS => ?_
        go_upto_region 12 with fail
        refine lnb HS.out rfl ?_
        refine lm 0 13 rfl rfl rfl rfl ?_
        simp only [sA, sB]
        refine lv 1 (.int .i64 0) rfl rfl (by intro x hx; go_simp; (first | done | exact rfl)) ?_
        simp only [sA, sB]
        refine la 2 34 rfl rfl rfl rfl ?_
        simp only [sA, sB]
        clear HS
        refine ld fun W10 HS => ?_
        go_upto_region 13 with fail
        refine lnb HS.out rfl ?_
        refine lm 0 13 rfl rfl rfl rfl ?_
        simp only [sA, sB]
        refine lv 1 (.int .i64 1) rfl rfl (by intro x hx; go_simp; (first | done | exact rfl)) ?_
        simp only [sA, sB]
        refine lv 2 (.int .i64 1) rfl rfl (by intro x hx; go_simp; (first | done | exact rfl)) ?_
        simp only [sA, sB]
        refine la 3 37 rfl rfl rfl rfl ?_
        simp only [sA, sB]
        clear HS
        refine ld fun W11 HS => ?_
        go_upto_region 14 with fail
        refine lnb HS.out rfl ?_
        refine lm 0 13 rfl rfl rfl rfl ?_
        simp only [sA, sB]
        refine lv 1 (.int .i64 0) rfl rfl (by intro x hx; go_simp; (first | done | exact rfl)) ?_
        simp only [sA, sB]
        refine la 2 39 rfl rfl rfl rfl ?_
        simp only [sA, sB]
        clear HS
        refine ld fun W12 HS => ?_
        go_upto_region 15 with fail
        refine lnb HS.out rfl ?_
        refine lv 0 (.agg (fnV 128 (two 64 (ofB x0).Z (ofB x0).O)).toArray) rfl rfl (by intro x hx; exact loadF hx 3 rfl rfl rfl (fun w => by kernel_rfl) (fun w => by kernel_rfl)) ?_
        simp only [sA, sB]
        refine lm 1 11 rfl rfl rfl rfl ?_
        simp only [sA, sB]
        refine lm 2 14 rfl rfl rfl rfl ?_
        simp only [sA, sB]
        refine lc 3 51 #[.agg (fnV 128 (two 64 (ofB x0).Z (ofB x0).O)).toArray, .int .i64 ((r1 : Nat) : Int), .int .i64 0] (.bool ((ofB x0).Z r1)) rfl rfl (by intro x hx; exact ref_may_0 (ofB x0) r1 (by omega) _) ?_
        simp only [sA, sB]
        refine lv 4 (.bool ((!((ofB x0).Z r1)))) rfl rfl (by intro x hx; go_simp; (first | done | exact rfl)) ?_
        simp only [sA, sB]
        refine lm 5 44 rfl rfl rfl rfl ?_
        simp only [sA, sB]
        refine lin_if (i := 6) (v := .agg (fnV 128 (two 64 (ofB x1).Z (ofB x1).O)).toArray) (!(!((ofB x0).Z r1))) rfl rfl (by generalize (!((ofB x0).Z r1)) = gg0; cases gg0 <;> rfl) (by intro hb; have hb195 := hid (show ((!((ofB x0).Z r1))) = false from nnb hb); intro x hx; (try simp only [hb]); (try simp only [cond_true]); exact loadF hx 4 rfl rfl rfl (fun w => by kernel_rfl) (fun w => by kernel_rfl)) ?_
        simp only [sA, sB]
        refine lin_if (i := 7) (v := .int .i64 ((r1 : Nat) : Int)) (!(!((ofB x0).Z r1))) rfl rfl (by generalize (!((ofB x0).Z r1)) = gg0; cases gg0 <;> rfl) (by intro hb; have hb196 := hid (show ((!((ofB x0).Z r1))) = false from nnb hb); intro x hx; (try simp only [hb]); (try simp only [cond_true]); go_simp; (first | done | exact rfl)) ?_
        simp only [sA, sB]
        refine lin_if (i := 8) (v := .int .i64 1) (!(!((ofB x0).Z r1))) rfl rfl (by generalize (!((ofB x0).Z r1)) = gg0; cases gg0 <;> rfl) (by intro hb; have hb197 := hid (show ((!((ofB x0).Z r1))) = false from nnb hb); intro x hx; (try simp only [hb]); (try simp only [cond_true]); go_simp; (first | done | exact rfl)) ?_
        simp only [sA, sB]
        refine lin_if_call (i := 9) (f := 51) (args := #[.agg (fnV 128 (two 64 (ofB x1).Z (ofB x1).O)).toArray, .int .i64 ((r1 : Nat) : Int), .int .i64 1]) (v := .bool ((ofB x1).O r1)) (!(!((ofB x0).Z r1))) (st_ups _ _) rfl rfl (by generalize (!((ofB x0).Z r1)) = gg0; cases gg0 <;> rfl) (by intro hb; have hb198 := hid (show ((!((ofB x0).Z r1))) = false from nnb hb); intro x hx; (try simp only [hb]); (try simp only [cond_true]); kernel_rfl) (by intro hb; have hb198 := hid (show ((!((ofB x0).Z r1))) = false from nnb hb); intro x hx; exact ref_may_1 (ofB x1) r1 (by omega) _) ?_
        simp only [sA, sB]
        refine lin_if (i := 10) (v := .bool ((!((ofB x1).O r1)))) (!(!((ofB x0).Z r1))) rfl rfl (by generalize (!((ofB x0).Z r1)) = gg0; cases gg0 <;> rfl) (by intro hb; have hb199 := hid (show ((!((ofB x0).Z r1))) = false from nnb hb); intro x hx; (try simp only [hb]); (try simp only [cond_true]); go_simp; (first | done | exact rfl)) ?_
        simp only [sA, sB]
        refine lv 11 (.bool ((bif (!((ofB x0).Z r1)) then true else (!((ofB x1).O r1))))) rfl rfl (by intro x hx; (cases hq : ((!((ofB x0).Z r1))) <;> first | rfl | (simp only [hq]; rfl) | simp [hq])) ?_
        simp only [sA, sB]
        refine lm 12 51 rfl rfl rfl rfl ?_
        simp only [sA, sB]
        refine lin_if (i := 13) (v := .int .i64 0) (!(bif (!((ofB x0).Z r1)) then true else (!((ofB x1).O r1)))) rfl rfl (by generalize (bif (!((ofB x0).Z r1)) then true else (!((ofB x1).O r1))) = gg0; cases gg0 <;> rfl) (by intro hb; have hb200 := hid (show ((bif (!((ofB x0).Z r1)) then true else (!((ofB x1).O r1)))) = false from nnb hb); intro x hx; (try simp only [hb]); (try simp only [cond_true]); go_simp; (first | done | exact rfl)) ?_
        simp only [sA, sB]
        refine lin_if (i := 14) (v := .pointer (some ⟨k4, 0, none⟩)) (!(bif (!((ofB x0).Z r1)) then true else (!((ofB x1).O r1)))) rfl rfl (by generalize (bif (!((ofB x0).Z r1)) then true else (!((ofB x1).O r1))) = gg0; cases gg0 <;> rfl) (by intro hb; have hb201 := hid (show ((bif (!((ofB x0).Z r1)) then true else (!((ofB x1).O r1)))) = false from nnb hb); intro x hx; (try simp only [hb]); (try simp only [cond_true]); go_simp; (first | done | exact rfl)) ?_
        simp only [sA, sB]
        refine lin_if (i := 15) (v := .bool ((cars bor3 (ofB x0) (ofB x1) r1).1)) (!(bif (!((ofB x0).Z r1)) then true else (!((ofB x1).O r1)))) rfl rfl (by generalize (bif (!((ofB x0).Z r1)) then true else (!((ofB x1).O r1))) = gg0; cases gg0 <;> rfl) (by intro hb; have hb202 := hid (show ((bif (!((ofB x0).Z r1)) then true else (!((ofB x1).O r1)))) = false from nnb hb); intro x hx; (try simp only [hb]); (try simp only [cond_true]); have f0 := hx.load 6 0 rfl rfl; go_simp; (first | done | exact rfl)) ?_
        simp only [sA, sB]
        refine lin_if (i := 16) (v := .bool ((!((cars bor3 (ofB x0) (ofB x1) r1).1)))) (!(bif (!((ofB x0).Z r1)) then true else (!((ofB x1).O r1)))) rfl rfl (by generalize (bif (!((ofB x0).Z r1)) then true else (!((ofB x1).O r1))) = gg0; cases gg0 <;> rfl) (by intro hb; have hb203 := hid (show ((bif (!((ofB x0).Z r1)) then true else (!((ofB x1).O r1)))) = false from nnb hb); intro x hx; (try simp only [hb]); (try simp only [cond_true]); go_simp; (first | done | exact rfl)) ?_
        simp only [sA, sB]
        refine lv 17 (.bool ((bif (bif (!((ofB x0).Z r1)) then true else (!((ofB x1).O r1))) then true else (!((cars bor3 (ofB x0) (ofB x1) r1).1))))) rfl rfl (by intro x hx; (cases hq : ((bif (!((ofB x0).Z r1)) then true else (!((ofB x1).O r1)))) <;> first | rfl | (simp only [hq]; rfl) | simp [hq])) ?_
        simp only [sA, sB]
        clear HS
        refine ld fun W13 HS => ?_
        cases h1 : ((bif (bif (!((ofB x0).Z r1)) then true else (!((ofB x1).O r1))) then true else (!((cars bor3 (ofB x0) (ofB x1) r1).1))))
        ·replace h1 := hid h1
         go_upto_region 16 with fail
         refine lnb HS.out rfl ?_
         refine lm 0 14 rfl rfl rfl rfl ?_
         simp only [sA, sB]
         refine lm 1 15 rfl rfl rfl rfl ?_
         simp only [sA, sB]
         refine lv 2 (.int .i64 1) rfl rfl (by intro x hx; go_simp; (first | done | exact rfl)) ?_
         simp only [sA, sB]
         refine lm 3 16 rfl rfl rfl rfl ?_
         simp only [sA, sB]
         refine lv 4 (.int .i64 1) rfl rfl (by intro x hx; go_simp; (first | done | exact rfl)) ?_
         simp only [sA, sB]
         refine la 5 62 rfl rfl rfl rfl ?_
         simp only [sA, sB]
         clear HS
         refine ld fun W14 HS => ?_
         go_upto_region 17 with fail
         refine lnb HS.out rfl ?_
         refine lm 0 2 rfl rfl rfl rfl ?_
         simp only [sA, sB]
         clear HS
         refine ld fun W15 HS => ?_
         go_upto_region 18 with fail
         refine lnb HS.out rfl ?_
         refine lm 0 14 rfl rfl rfl rfl ?_
         simp only [sA, sB]
         refine lm 1 15 rfl rfl rfl rfl ?_
         simp only [sA, sB]
         refine lv 2 (.int .i64 (-1)) rfl rfl (by intro x hx; go_simp; (first | done | exact rfl)) ?_
         simp only [sA, sB]
         refine lm 3 16 rfl rfl rfl rfl ?_
         simp only [sA, sB]
         refine lv 4 (.int .i64 (-1)) rfl rfl (by intro x hx; go_simp; (first | done | exact rfl)) ?_
         simp only [sA, sB]
         refine lv 5 (.int .i64 3) rfl rfl (by intro x hx; go_simp; (first | done | exact rfl)) ?_
         simp only [sA, sB]
         refine la 6 69 rfl rfl rfl rfl ?_
         simp only [sA, sB]
         clear HS
         refine ld fun W16 HS => ?_
         go_upto_region 19 with fail
         refine lnb HS.out rfl ?_
         refine lm 0 17 rfl rfl rfl rfl ?_
         simp only [sA, sB]
         refine lv 1 (.int .i64 1) rfl rfl (by intro x hx; go_simp; (first | done | exact rfl)) ?_
         simp only [sA, sB]
         refine lv 2 (.bool true) rfl rfl (by intro x hx; go_simp; (first | done | exact rfl)) ?_
         simp only [sA, sB]
         clear HS
         refine ld fun W17 HS => ?_
         go_upto_region 20 with fail
         refine lnb HS.out rfl ?_
         refine lm 0 11 rfl rfl rfl rfl ?_
         simp only [sA, sB]
         refine lv 1 (.pointer (some ⟨k3, 64, none⟩)) rfl rfl (by intro x hx; go_simp; (first | done | exact rfl)) ?_
         simp only [sA, sB]
         refine lv 2 (.pointer (some ⟨k3, 64 + r1, none⟩)) rfl rfl (by intro x hx; go_simp; first | (rw [if_pos (by omega)]; done) | (rw [if_pos (by omega)]; rfl) | (intro hq; exfalso; omega) | (simp; omega)) ?_
         simp only [sA, sB]
         refine lin_store (i := 3) (St w [⟨w.heap.size, [some (.int .u64 (tn (x0.lo))), some (.int .u64 (tn (x0.hi)))], 24⟩, ⟨w.heap.size + 1, [some (.int .u64 (tn (x1.lo))), some (.int .u64 (tn (x1.hi)))], 24⟩, ⟨w.heap.size + 2, [some (.int .u64 0), some (.int .u64 0)], 24⟩, ⟨k1, ((fnV 128 (two 64 (ofB x0).Z (ofB x0).O)).map some), 48⟩, ⟨k2, ((fnV 128 (two 64 (ofB x1).Z (ofB x1).O)).map some), 48⟩, ⟨k3, ((fnV 128 (upd (two 64 (upd (upto r1 (sumB bor3 (ofB x0) (ofB x1)).Z) r1 (someTo (fun p q c => !odd3 p q c) (ofB x0) (ofB x1) (cars bor3 (ofB x0) (ofB x1) r1) r1 2)) (upd (upto r1 (sumB bor3 (ofB x0) (ofB x1)).O) r1 (someTo odd3 (ofB x0) (ofB x1) (cars bor3 (ofB x0) (ofB x1) r1) r1 2))) (64 + r1) true)).map some), 48⟩, ⟨k4, [some (.bool ((cars bor3 (ofB x0) (ofB x1) r1).1)), some (.bool ((cars bor3 (ofB x0) (ofB x1) r1).2))], 60⟩, ⟨k5, [some (.bool ((someTo (fun p q c => !bor3 p q c) (ofB x0) (ofB x1) (cars bor3 (ofB x0) (ofB x1) r1) r1 2))), some (.bool ((someTo bor3 (ofB x0) (ofB x1) (cars bor3 (ofB x0) (ofB x1) r1) r1 2)))], 60⟩]) rfl rfl (by rfl) (fun x => x.setCell ⟨k3, 64 + r1, none⟩ (.bool true)) (by intro x hx; have z0 := hx.fn 5 (64 + r1) rfl (by omega); have q0 := hx.soft 5 (64 + r1) rfl; go_simp; (first | done | rfl)) (fun x hx => hx.fnset 5 (64 + r1) true rfl) ?_
         clear HS
         refine ld fun W18 HS => ?_
         go_upto_region 22 with fail
         refine lnb HS.out rfl ?_
         refine lm 0 17 rfl rfl rfl rfl ?_
         simp only [sA, sB]
         refine lv 1 (.bool true) rfl rfl (by intro x hx; go_simp; (first | done | exact rfl)) ?_
         simp only [sA, sB]
         refine la 2 80 rfl rfl rfl rfl ?_
         simp only [sA, sB]
         clear HS
         refine ld fun W19 HS => ?_
         go_upto_region 23 with fail
         refine lnb HS.out rfl ?_
         refine lm 0 2 rfl rfl rfl rfl ?_
         simp only [sA, sB]
         clear HS
         refine ld fun W20 HS => ?_
         go_upto_region 24 with fail
         refine lnb HS.out rfl ?_
         refine lm 0 17 rfl rfl rfl rfl ?_
         simp only [sA, sB]
         refine lv 1 (.bool true) rfl rfl (by intro x hx; go_simp; (first | done | exact rfl)) ?_
         simp only [sA, sB]
         refine la 2 83 rfl rfl rfl rfl ?_
         simp only [sA, sB]
         clear HS
         refine ld fun W21 HS => ?_
         go_upto_region 25 with fail
         refine lnb HS.out rfl ?_
         refine lm 0 18 rfl rfl rfl rfl ?_
         simp only [sA, sB]
         clear HS
         refine ld fun W22 HS => ?_
         go_upto_region 26 with fail
         refine lnb HS.out rfl ?_
         refine lv 0 (.pointer (some ⟨k5, 1, none⟩)) rfl rfl (by intro x hx; go_simp; (first | done | exact rfl)) ?_
         simp only [sA, sB]
         refine ls 1 7 1 [.bool true] rfl rfl rfl (by intro x hx; obtain ⟨_, z0, q0⟩ := hx.at1 7 1 rfl; go_simp; (first | done | rfl)) ?_
         simp only [Blk.putC, setM, sA, sB]
         clear HS
         refine ld fun W23 HS => ?_
         go_upto_region 11 with fail
         refine lnb HS.out rfl ?_
         refine lm 0 13 rfl rfl rfl rfl ?_
         simp only [sA, sB]
         refine lv 1 (.int .i64 3) rfl rfl (by intro x hx; go_simp; (first | done | exact rfl)) ?_
         simp only [sA, sB]
         refine la 2 32 rfl rfl rfl rfl ?_
         simp only [sA, sB]
         clear HS
         refine ld fun W24 HS => ?_
         go_wp2
         exact ⟨hlt2, hid ⟨_, _, _, _, _, _, _, _, _, _, _, _, _, _, _, _, _, _, _, _, _, _, _, _, _, _, _, _, _, _, _, _, _, _, _, _, _, _, _, _, _, _, _, _, _, _, _, _, _, _, _, _, _, _, _, _, _, _, _, _, _, _, _, rfl, (by have h := HS.out; rw [upd_hi, upd_upd] at h; rw [to_same (f := (fun p q c => !odd3 p q c)) (x := (ofB x0)) (y := (ofB x1)) (c := (cars bor3 (ofB x0) (ofB x1) r1)) (r := r1) (k := 2) ((turn_yes (f := (fun p q c => !odd3 p q c)) (p := false) (q := true) (c := false) h1.out).trans rfl), to_true (f := odd3) (x := (ofB x0)) (y := (ofB x1)) (c := (cars bor3 (ofB x0) (ofB x1) r1)) (r := r1) (k := 2) ((turn_yes (f := odd3) (p := false) (q := true) (c := false) h1.out).trans rfl), to_same (f := (fun p q c => !bor3 p q c)) (x := (ofB x0)) (y := (ofB x1)) (c := (cars bor3 (ofB x0) (ofB x1) r1)) (r := r1) (k := 2) ((turn_yes (f := (fun p q c => !bor3 p q c)) (p := false) (q := true) (c := false) h1.out).trans rfl), to_true (f := bor3) (x := (ofB x0)) (y := (ofB x1)) (c := (cars bor3 (ofB x0) (ofB x1) r1)) (r := r1) (k := 2) ((turn_yes (f := bor3) (p := false) (q := true) (c := false) h1.out).trans rfl)]; exact h)⟩⟩
        ·replace h1 := hid h1
         go_upto_region 11 with fail
         refine lnb HS.out rfl ?_
         refine lm 0 13 rfl rfl rfl rfl ?_
         simp only [sA, sB]
         refine lv 1 (.int .i64 3) rfl rfl (by intro x hx; go_simp; (first | done | exact rfl)) ?_
         simp only [sA, sB]
         refine la 2 32 rfl rfl rfl rfl ?_
         simp only [sA, sB]
         clear HS
         refine ld fun W14 HS => ?_
         go_wp2
         exact ⟨hlt2, hid ⟨_, _, _, _, _, _, _, _, _, _, _, _, _, _, _, _, _, _, _, _, _, _, _, _, _, _, _, _, _, _, _, _, _, _, _, _, _, _, _, _, _, _, _, _, _, _, _, _, _, _, _, _, _, _, _, _, _, _, _, _, _, _, _, rfl, (by rw [to_same (f := (fun p q c => !odd3 p q c)) (x := (ofB x0)) (y := (ofB x1)) (c := (cars bor3 (ofB x0) (ofB x1) r1)) (r := r1) (k := 2) (turn_no (f := (fun p q c => !odd3 p q c)) (p := false) (q := true) (c := false) h1.out), to_same (f := odd3) (x := (ofB x0)) (y := (ofB x1)) (c := (cars bor3 (ofB x0) (ofB x1) r1)) (r := r1) (k := 2) (turn_no (f := odd3) (p := false) (q := true) (c := false) h1.out), to_same (f := (fun p q c => !bor3 p q c)) (x := (ofB x0)) (y := (ofB x1)) (c := (cars bor3 (ofB x0) (ofB x1) r1)) (r := r1) (k := 2) (turn_no (f := (fun p q c => !bor3 p q c)) (p := false) (q := true) (c := false) h1.out), to_same (f := bor3) (x := (ofB x0)) (y := (ofB x1)) (c := (cars bor3 (ofB x0) (ofB x1) r1)) (r := r1) (k := 2) (turn_no (f := bor3) (p := false) (q := true) (c := false) h1.out)]; exact HS.out)⟩⟩
      · rw [show ((3 : Nat) : Int) = 3 from rfl]
        go_upto_region 10 with fail
        refine lnb HS.out rfl ?_
        refine lm 0 13 rfl rfl rfl rfl ?_
        simp only [sA, sB]
        refine lv 1 (.bool true) rfl rfl (by intro x hx; go_simp; (first | done | exact rfl)) ?_
        simp only [sA, sB]
        clear HS
        refine ld fun W9 HS => ?_
        go_upto_region 12 with fail
        refine lnb HS.out rfl ?_
        refine lm 0 13 rfl rfl rfl rfl ?_
        simp only [sA, sB]
        refine lv 1 (.int .i64 1) rfl rfl (by intro x hx; go_simp; (first | done | exact rfl)) ?_
        simp only [sA, sB]
        refine la 2 34 rfl rfl rfl rfl ?_
        simp only [sA, sB]
        clear HS
        refine ld fun W10 HS => ?_
        go_upto_region 13 with fail
        refine lnb HS.out rfl ?_
        refine lm 0 13 rfl rfl rfl rfl ?_
        simp only [sA, sB]
        refine lv 1 (.int .i64 1) rfl rfl (by intro x hx; go_simp; (first | done | exact rfl)) ?_
        simp only [sA, sB]
        refine lv 2 (.int .i64 1) rfl rfl (by intro x hx; go_simp; (first | done | exact rfl)) ?_
        simp only [sA, sB]
        refine la 3 37 rfl rfl rfl rfl ?_
        simp only [sA, sB]
        clear HS
        refine ld fun W11 HS => ?_
        go_upto_region 14 with fail
        refine lnb HS.out rfl ?_
        refine lm 0 13 rfl rfl rfl rfl ?_
        simp only [sA, sB]
        refine lv 1 (.int .i64 0) rfl rfl (by intro x hx; go_simp; (first | done | exact rfl)) ?_
        simp only [sA, sB]
        refine la 2 39 rfl rfl rfl rfl ?_
        simp only [sA, sB]
        clear HS
        refine ld fun W12 HS => ?_
        go_upto_region 15 with fail
        refine lnb HS.out rfl ?_
        refine lv 0 (.agg (fnV 128 (two 64 (ofB x0).Z (ofB x0).O)).toArray) rfl rfl (by intro x hx; exact loadF hx 3 rfl rfl rfl (fun w => by kernel_rfl) (fun w => by kernel_rfl)) ?_
        simp only [sA, sB]
        refine lm 1 11 rfl rfl rfl rfl ?_
        simp only [sA, sB]
        refine lm 2 14 rfl rfl rfl rfl ?_
        simp only [sA, sB]
        refine lc 3 51 #[.agg (fnV 128 (two 64 (ofB x0).Z (ofB x0).O)).toArray, .int .i64 ((r1 : Nat) : Int), .int .i64 1] (.bool ((ofB x0).O r1)) rfl rfl (by intro x hx; exact ref_may_1 (ofB x0) r1 (by omega) _) ?_
        simp only [sA, sB]
        refine lv 4 (.bool ((!((ofB x0).O r1)))) rfl rfl (by intro x hx; go_simp; (first | done | exact rfl)) ?_
        simp only [sA, sB]
        refine lm 5 44 rfl rfl rfl rfl ?_
        simp only [sA, sB]
        refine lin_if (i := 6) (v := .agg (fnV 128 (two 64 (ofB x1).Z (ofB x1).O)).toArray) (!(!((ofB x0).O r1))) rfl rfl (by generalize (!((ofB x0).O r1)) = gg0; cases gg0 <;> rfl) (by intro hb; have hb204 := hid (show ((!((ofB x0).O r1))) = false from nnb hb); intro x hx; (try simp only [hb]); (try simp only [cond_true]); exact loadF hx 4 rfl rfl rfl (fun w => by kernel_rfl) (fun w => by kernel_rfl)) ?_
        simp only [sA, sB]
        refine lin_if (i := 7) (v := .int .i64 ((r1 : Nat) : Int)) (!(!((ofB x0).O r1))) rfl rfl (by generalize (!((ofB x0).O r1)) = gg0; cases gg0 <;> rfl) (by intro hb; have hb205 := hid (show ((!((ofB x0).O r1))) = false from nnb hb); intro x hx; (try simp only [hb]); (try simp only [cond_true]); go_simp; (first | done | exact rfl)) ?_
        simp only [sA, sB]
        refine lin_if (i := 8) (v := .int .i64 1) (!(!((ofB x0).O r1))) rfl rfl (by generalize (!((ofB x0).O r1)) = gg0; cases gg0 <;> rfl) (by intro hb; have hb206 := hid (show ((!((ofB x0).O r1))) = false from nnb hb); intro x hx; (try simp only [hb]); (try simp only [cond_true]); go_simp; (first | done | exact rfl)) ?_
        simp only [sA, sB]
        refine lin_if_call (i := 9) (f := 51) (args := #[.agg (fnV 128 (two 64 (ofB x1).Z (ofB x1).O)).toArray, .int .i64 ((r1 : Nat) : Int), .int .i64 1]) (v := .bool ((ofB x1).O r1)) (!(!((ofB x0).O r1))) (st_ups _ _) rfl rfl (by generalize (!((ofB x0).O r1)) = gg0; cases gg0 <;> rfl) (by intro hb; have hb207 := hid (show ((!((ofB x0).O r1))) = false from nnb hb); intro x hx; (try simp only [hb]); (try simp only [cond_true]); kernel_rfl) (by intro hb; have hb207 := hid (show ((!((ofB x0).O r1))) = false from nnb hb); intro x hx; exact ref_may_1 (ofB x1) r1 (by omega) _) ?_
        simp only [sA, sB]
        refine lin_if (i := 10) (v := .bool ((!((ofB x1).O r1)))) (!(!((ofB x0).O r1))) rfl rfl (by generalize (!((ofB x0).O r1)) = gg0; cases gg0 <;> rfl) (by intro hb; have hb208 := hid (show ((!((ofB x0).O r1))) = false from nnb hb); intro x hx; (try simp only [hb]); (try simp only [cond_true]); go_simp; (first | done | exact rfl)) ?_
        simp only [sA, sB]
        refine lv 11 (.bool ((bif (!((ofB x0).O r1)) then true else (!((ofB x1).O r1))))) rfl rfl (by intro x hx; (cases hq : ((!((ofB x0).O r1))) <;> first | rfl | (simp only [hq]; rfl) | simp [hq])) ?_
        simp only [sA, sB]
        refine lm 12 51 rfl rfl rfl rfl ?_
        simp only [sA, sB]
        refine lin_if (i := 13) (v := .int .i64 0) (!(bif (!((ofB x0).O r1)) then true else (!((ofB x1).O r1)))) rfl rfl (by generalize (bif (!((ofB x0).O r1)) then true else (!((ofB x1).O r1))) = gg0; cases gg0 <;> rfl) (by intro hb; have hb209 := hid (show ((bif (!((ofB x0).O r1)) then true else (!((ofB x1).O r1)))) = false from nnb hb); intro x hx; (try simp only [hb]); (try simp only [cond_true]); go_simp; (first | done | exact rfl)) ?_
        simp only [sA, sB]
        refine lin_if (i := 14) (v := .pointer (some ⟨k4, 0, none⟩)) (!(bif (!((ofB x0).O r1)) then true else (!((ofB x1).O r1)))) rfl rfl (by generalize (bif (!((ofB x0).O r1)) then true else (!((ofB x1).O r1))) = gg0; cases gg0 <;> rfl) (by intro hb; have hb210 := hid (show ((bif (!((ofB x0).O r1)) then true else (!((ofB x1).O r1)))) = false from nnb hb); intro x hx; (try simp only [hb]); (try simp only [cond_true]); go_simp; (first | done | exact rfl)) ?_
        simp only [sA, sB]
        refine lin_if (i := 15) (v := .bool ((cars bor3 (ofB x0) (ofB x1) r1).1)) (!(bif (!((ofB x0).O r1)) then true else (!((ofB x1).O r1)))) rfl rfl (by generalize (bif (!((ofB x0).O r1)) then true else (!((ofB x1).O r1))) = gg0; cases gg0 <;> rfl) (by intro hb; have hb211 := hid (show ((bif (!((ofB x0).O r1)) then true else (!((ofB x1).O r1)))) = false from nnb hb); intro x hx; (try simp only [hb]); (try simp only [cond_true]); have f0 := hx.load 6 0 rfl rfl; go_simp; (first | done | exact rfl)) ?_
        simp only [sA, sB]
        refine lin_if (i := 16) (v := .bool ((!((cars bor3 (ofB x0) (ofB x1) r1).1)))) (!(bif (!((ofB x0).O r1)) then true else (!((ofB x1).O r1)))) rfl rfl (by generalize (bif (!((ofB x0).O r1)) then true else (!((ofB x1).O r1))) = gg0; cases gg0 <;> rfl) (by intro hb; have hb212 := hid (show ((bif (!((ofB x0).O r1)) then true else (!((ofB x1).O r1)))) = false from nnb hb); intro x hx; (try simp only [hb]); (try simp only [cond_true]); go_simp; (first | done | exact rfl)) ?_
        simp only [sA, sB]
        refine lv 17 (.bool ((bif (bif (!((ofB x0).O r1)) then true else (!((ofB x1).O r1))) then true else (!((cars bor3 (ofB x0) (ofB x1) r1).1))))) rfl rfl (by intro x hx; (cases hq : ((bif (!((ofB x0).O r1)) then true else (!((ofB x1).O r1)))) <;> first | rfl | (simp only [hq]; rfl) | simp [hq])) ?_
        simp only [sA, sB]
        clear HS
        refine ld fun W13 HS => ?_
        cases h1 : ((bif (bif (!((ofB x0).O r1)) then true else (!((ofB x1).O r1))) then true else (!((cars bor3 (ofB x0) (ofB x1) r1).1))))
        ·replace h1 := hid h1
         go_upto_region 16 with fail
         refine lnb HS.out rfl ?_
         refine lm 0 14 rfl rfl rfl rfl ?_
         simp only [sA, sB]
         refine lm 1 15 rfl rfl rfl rfl ?_
         simp only [sA, sB]
         refine lv 2 (.int .i64 2) rfl rfl (by intro x hx; go_simp; (first | done | exact rfl)) ?_
         simp only [sA, sB]
         refine lm 3 16 rfl rfl rfl rfl ?_
         simp only [sA, sB]
         refine lv 4 (.int .i64 2) rfl rfl (by intro x hx; go_simp; (first | done | exact rfl)) ?_
         simp only [sA, sB]
         refine la 5 62 rfl rfl rfl rfl ?_
         simp only [sA, sB]
         clear HS
         refine ld fun W14 HS => ?_
         go_upto_region 17 with fail
         refine lnb HS.out rfl ?_
         refine lm 0 2 rfl rfl rfl rfl ?_
         simp only [sA, sB]
         clear HS
         refine ld fun W15 HS => ?_
         go_upto_region 18 with fail
         refine lnb HS.out rfl ?_
         refine lm 0 14 rfl rfl rfl rfl ?_
         simp only [sA, sB]
         refine lm 1 15 rfl rfl rfl rfl ?_
         simp only [sA, sB]
         refine lv 2 (.int .i64 0) rfl rfl (by intro x hx; go_simp; (first | done | exact rfl)) ?_
         simp only [sA, sB]
         refine lm 3 16 rfl rfl rfl rfl ?_
         simp only [sA, sB]
         refine lv 4 (.int .i64 0) rfl rfl (by intro x hx; go_simp; (first | done | exact rfl)) ?_
         simp only [sA, sB]
         refine lv 5 (.int .i64 4) rfl rfl (by intro x hx; go_simp; (first | done | exact rfl)) ?_
         simp only [sA, sB]
         refine la 6 69 rfl rfl rfl rfl ?_
         simp only [sA, sB]
         clear HS
         refine ld fun W16 HS => ?_
         go_upto_region 19 with fail
         refine lnb HS.out rfl ?_
         refine lm 0 17 rfl rfl rfl rfl ?_
         simp only [sA, sB]
         refine lv 1 (.int .i64 0) rfl rfl (by intro x hx; go_simp; (first | done | exact rfl)) ?_
         simp only [sA, sB]
         refine lv 2 (.bool false) rfl rfl (by intro x hx; go_simp; (first | done | exact rfl)) ?_
         simp only [sA, sB]
         clear HS
         refine ld fun W17 HS => ?_
         go_upto_region 21 with fail
         refine lnb HS.out rfl ?_
         refine lm 0 11 rfl rfl rfl rfl ?_
         simp only [sA, sB]
         refine lv 1 (.pointer (some ⟨k3, 0, none⟩)) rfl rfl (by intro x hx; go_simp; (first | done | exact rfl)) ?_
         simp only [sA, sB]
         refine lv 2 (.pointer (some ⟨k3, r1, none⟩)) rfl rfl (by intro x hx; go_simp; first | (rw [if_pos (by omega)]; done) | (rw [if_pos (by omega)]; rfl) | (intro hq; exfalso; omega) | (simp; omega)) ?_
         simp only [sA, sB]
         refine lin_store (i := 3) (St w [⟨w.heap.size, [some (.int .u64 (tn (x0.lo))), some (.int .u64 (tn (x0.hi)))], 24⟩, ⟨w.heap.size + 1, [some (.int .u64 (tn (x1.lo))), some (.int .u64 (tn (x1.hi)))], 24⟩, ⟨w.heap.size + 2, [some (.int .u64 0), some (.int .u64 0)], 24⟩, ⟨k1, ((fnV 128 (two 64 (ofB x0).Z (ofB x0).O)).map some), 48⟩, ⟨k2, ((fnV 128 (two 64 (ofB x1).Z (ofB x1).O)).map some), 48⟩, ⟨k3, ((fnV 128 (upd (two 64 (upd (upto r1 (sumB bor3 (ofB x0) (ofB x1)).Z) r1 (someTo (fun p q c => !odd3 p q c) (ofB x0) (ofB x1) (cars bor3 (ofB x0) (ofB x1) r1) r1 3)) (upd (upto r1 (sumB bor3 (ofB x0) (ofB x1)).O) r1 (someTo odd3 (ofB x0) (ofB x1) (cars bor3 (ofB x0) (ofB x1) r1) r1 3))) r1 true)).map some), 48⟩, ⟨k4, [some (.bool ((cars bor3 (ofB x0) (ofB x1) r1).1)), some (.bool ((cars bor3 (ofB x0) (ofB x1) r1).2))], 60⟩, ⟨k5, [some (.bool ((someTo (fun p q c => !bor3 p q c) (ofB x0) (ofB x1) (cars bor3 (ofB x0) (ofB x1) r1) r1 3))), some (.bool ((someTo bor3 (ofB x0) (ofB x1) (cars bor3 (ofB x0) (ofB x1) r1) r1 3)))], 60⟩]) rfl rfl (by rfl) (fun x => x.setCell ⟨k3, r1, none⟩ (.bool true)) (by intro x hx; have z0 := hx.fn 5 (r1) rfl (by omega); have q0 := hx.soft 5 (r1) rfl; go_simp; (first | done | rfl)) (fun x hx => hx.fnset 5 (r1) true rfl) ?_
         clear HS
         refine ld fun W18 HS => ?_
         go_upto_region 22 with fail
         refine lnb HS.out rfl ?_
         refine lm 0 17 rfl rfl rfl rfl ?_
         simp only [sA, sB]
         refine lv 1 (.bool true) rfl rfl (by intro x hx; go_simp; (first | done | exact rfl)) ?_
         simp only [sA, sB]
         refine la 2 80 rfl rfl rfl rfl ?_
         simp only [sA, sB]
         clear HS
         refine ld fun W19 HS => ?_
         go_upto_region 23 with fail
         refine lnb HS.out rfl ?_
         refine lm 0 2 rfl rfl rfl rfl ?_
         simp only [sA, sB]
         clear HS
         refine ld fun W20 HS => ?_
         go_upto_region 24 with fail
         refine lnb HS.out rfl ?_
         refine lm 0 17 rfl rfl rfl rfl ?_
         simp only [sA, sB]
         refine lv 1 (.bool false) rfl rfl (by intro x hx; go_simp; (first | done | exact rfl)) ?_
         simp only [sA, sB]
         refine la 2 83 rfl rfl rfl rfl ?_
         simp only [sA, sB]
         clear HS
         refine ld fun W21 HS => ?_
         go_upto_region 25 with fail
         refine lnb HS.out rfl ?_
         refine lm 0 18 rfl rfl rfl rfl ?_
         simp only [sA, sB]
         clear HS
         refine ld fun W22 HS => ?_
         go_upto_region 27 with fail
         refine lnb HS.out rfl ?_
         refine lv 0 (.pointer (some ⟨k5, 0, none⟩)) rfl rfl (by intro x hx; go_simp; (first | done | exact rfl)) ?_
         simp only [sA, sB]
         refine ls 1 7 0 [.bool true] rfl rfl rfl (by intro x hx; obtain ⟨_, z0, q0⟩ := hx.at1 7 0 rfl; go_simp; (first | done | rfl)) ?_
         simp only [Blk.putC, setM, sA, sB]
         clear HS
         refine ld fun W23 HS => ?_
         go_upto_region 11 with fail
         refine lnb HS.out rfl ?_
         refine lm 0 13 rfl rfl rfl rfl ?_
         simp only [sA, sB]
         refine lv 1 (.int .i64 4) rfl rfl (by intro x hx; go_simp; (first | done | exact rfl)) ?_
         simp only [sA, sB]
         refine la 2 32 rfl rfl rfl rfl ?_
         simp only [sA, sB]
         clear HS
         refine ld fun W24 HS => ?_
         go_wp2
         exact ⟨hlt2, hid ⟨_, _, _, _, _, _, _, _, _, _, _, _, _, _, _, _, _, _, _, _, _, _, _, _, _, _, _, _, _, _, _, _, _, _, _, _, _, _, _, _, _, _, _, _, _, _, _, _, _, _, _, _, _, _, _, _, _, _, _, _, _, _, _, rfl, (by have h := HS.out; rw [upd_lo (by omega), upd_upd] at h; rw [to_true (f := (fun p q c => !odd3 p q c)) (x := (ofB x0)) (y := (ofB x1)) (c := (cars bor3 (ofB x0) (ofB x1) r1)) (r := r1) (k := 3) ((turn_yes (f := (fun p q c => !odd3 p q c)) (p := true) (q := true) (c := false) h1.out).trans rfl), to_same (f := odd3) (x := (ofB x0)) (y := (ofB x1)) (c := (cars bor3 (ofB x0) (ofB x1) r1)) (r := r1) (k := 3) ((turn_yes (f := odd3) (p := true) (q := true) (c := false) h1.out).trans rfl), to_true (f := (fun p q c => !bor3 p q c)) (x := (ofB x0)) (y := (ofB x1)) (c := (cars bor3 (ofB x0) (ofB x1) r1)) (r := r1) (k := 3) ((turn_yes (f := (fun p q c => !bor3 p q c)) (p := true) (q := true) (c := false) h1.out).trans rfl), to_same (f := bor3) (x := (ofB x0)) (y := (ofB x1)) (c := (cars bor3 (ofB x0) (ofB x1) r1)) (r := r1) (k := 3) ((turn_yes (f := bor3) (p := true) (q := true) (c := false) h1.out).trans rfl)]; exact h)⟩⟩
        ·replace h1 := hid h1
         go_upto_region 11 with fail
         refine lnb HS.out rfl ?_
         refine lm 0 13 rfl rfl rfl rfl ?_
         simp only [sA, sB]
         refine lv 1 (.int .i64 4) rfl rfl (by intro x hx; go_simp; (first | done | exact rfl)) ?_
         simp only [sA, sB]
         refine la 2 32 rfl rfl rfl rfl ?_
         simp only [sA, sB]
         clear HS
         refine ld fun W14 HS => ?_
         go_wp2
         exact ⟨hlt2, hid ⟨_, _, _, _, _, _, _, _, _, _, _, _, _, _, _, _, _, _, _, _, _, _, _, _, _, _, _, _, _, _, _, _, _, _, _, _, _, _, _, _, _, _, _, _, _, _, _, _, _, _, _, _, _, _, _, _, _, _, _, _, _, _, _, rfl, (by rw [to_same (f := (fun p q c => !odd3 p q c)) (x := (ofB x0)) (y := (ofB x1)) (c := (cars bor3 (ofB x0) (ofB x1) r1)) (r := r1) (k := 3) (turn_no (f := (fun p q c => !odd3 p q c)) (p := true) (q := true) (c := false) h1.out), to_same (f := odd3) (x := (ofB x0)) (y := (ofB x1)) (c := (cars bor3 (ofB x0) (ofB x1) r1)) (r := r1) (k := 3) (turn_no (f := odd3) (p := true) (q := true) (c := false) h1.out), to_same (f := (fun p q c => !bor3 p q c)) (x := (ofB x0)) (y := (ofB x1)) (c := (cars bor3 (ofB x0) (ofB x1) r1)) (r := r1) (k := 3) (turn_no (f := (fun p q c => !bor3 p q c)) (p := true) (q := true) (c := false) h1.out), to_same (f := bor3) (x := (ofB x0)) (y := (ofB x1)) (c := (cars bor3 (ofB x0) (ofB x1) r1)) (r := r1) (k := 3) (turn_no (f := bor3) (p := true) (q := true) (c := false) h1.out)]; exact HS.out)⟩⟩
      · rw [show ((4 : Nat) : Int) = 4 from rfl]
        go_upto_region 10 with fail
        refine lnb HS.out rfl ?_
        refine lm 0 13 rfl rfl rfl rfl ?_
        simp only [sA, sB]
        refine lv 1 (.bool true) rfl rfl (by intro x hx; go_simp; (first | done | exact rfl)) ?_
        simp only [sA, sB]
        clear HS
        refine ld fun W9 HS => ?_
        go_upto_region 12 with fail
        refine lnb HS.out rfl ?_
        refine lm 0 13 rfl rfl rfl rfl ?_
        simp only [sA, sB]
        refine lv 1 (.int .i64 0) rfl rfl (by intro x hx; go_simp; (first | done | exact rfl)) ?_
        simp only [sA, sB]
        refine la 2 34 rfl rfl rfl rfl ?_
        simp only [sA, sB]
        clear HS
        refine ld fun W10 HS => ?_
        go_upto_region 13 with fail
        refine lnb HS.out rfl ?_
        refine lm 0 13 rfl rfl rfl rfl ?_
        simp only [sA, sB]
        refine lv 1 (.int .i64 2) rfl rfl (by intro x hx; go_simp; (first | done | exact rfl)) ?_
        simp only [sA, sB]
        refine lv 2 (.int .i64 0) rfl rfl (by intro x hx; go_simp; (first | done | exact rfl)) ?_
        simp only [sA, sB]
        refine la 3 37 rfl rfl rfl rfl ?_
        simp only [sA, sB]
        clear HS
        refine ld fun W11 HS => ?_
        go_upto_region 14 with fail
        refine lnb HS.out rfl ?_
        refine lm 0 13 rfl rfl rfl rfl ?_
        simp only [sA, sB]
        refine lv 1 (.int .i64 1) rfl rfl (by intro x hx; go_simp; (first | done | exact rfl)) ?_
        simp only [sA, sB]
        refine la 2 39 rfl rfl rfl rfl ?_
        simp only [sA, sB]
        clear HS
        refine ld fun W12 HS => ?_
        go_upto_region 15 with fail
        refine lnb HS.out rfl ?_
        refine lv 0 (.agg (fnV 128 (two 64 (ofB x0).Z (ofB x0).O)).toArray) rfl rfl (by intro x hx; exact loadF hx 3 rfl rfl rfl (fun w => by kernel_rfl) (fun w => by kernel_rfl)) ?_
        simp only [sA, sB]
        refine lm 1 11 rfl rfl rfl rfl ?_
        simp only [sA, sB]
        refine lm 2 14 rfl rfl rfl rfl ?_
        simp only [sA, sB]
        refine lc 3 51 #[.agg (fnV 128 (two 64 (ofB x0).Z (ofB x0).O)).toArray, .int .i64 ((r1 : Nat) : Int), .int .i64 0] (.bool ((ofB x0).Z r1)) rfl rfl (by intro x hx; exact ref_may_0 (ofB x0) r1 (by omega) _) ?_
        simp only [sA, sB]
        refine lv 4 (.bool ((!((ofB x0).Z r1)))) rfl rfl (by intro x hx; go_simp; (first | done | exact rfl)) ?_
        simp only [sA, sB]
        refine lm 5 44 rfl rfl rfl rfl ?_
        simp only [sA, sB]
        refine lin_if (i := 6) (v := .agg (fnV 128 (two 64 (ofB x1).Z (ofB x1).O)).toArray) (!(!((ofB x0).Z r1))) rfl rfl (by generalize (!((ofB x0).Z r1)) = gg0; cases gg0 <;> rfl) (by intro hb; have hb213 := hid (show ((!((ofB x0).Z r1))) = false from nnb hb); intro x hx; (try simp only [hb]); (try simp only [cond_true]); exact loadF hx 4 rfl rfl rfl (fun w => by kernel_rfl) (fun w => by kernel_rfl)) ?_
        simp only [sA, sB]
        refine lin_if (i := 7) (v := .int .i64 ((r1 : Nat) : Int)) (!(!((ofB x0).Z r1))) rfl rfl (by generalize (!((ofB x0).Z r1)) = gg0; cases gg0 <;> rfl) (by intro hb; have hb214 := hid (show ((!((ofB x0).Z r1))) = false from nnb hb); intro x hx; (try simp only [hb]); (try simp only [cond_true]); go_simp; (first | done | exact rfl)) ?_
        simp only [sA, sB]
        refine lin_if (i := 8) (v := .int .i64 0) (!(!((ofB x0).Z r1))) rfl rfl (by generalize (!((ofB x0).Z r1)) = gg0; cases gg0 <;> rfl) (by intro hb; have hb215 := hid (show ((!((ofB x0).Z r1))) = false from nnb hb); intro x hx; (try simp only [hb]); (try simp only [cond_true]); go_simp; (first | done | exact rfl)) ?_
        simp only [sA, sB]
        refine lin_if_call (i := 9) (f := 51) (args := #[.agg (fnV 128 (two 64 (ofB x1).Z (ofB x1).O)).toArray, .int .i64 ((r1 : Nat) : Int), .int .i64 0]) (v := .bool ((ofB x1).Z r1)) (!(!((ofB x0).Z r1))) (st_ups _ _) rfl rfl (by generalize (!((ofB x0).Z r1)) = gg0; cases gg0 <;> rfl) (by intro hb; have hb216 := hid (show ((!((ofB x0).Z r1))) = false from nnb hb); intro x hx; (try simp only [hb]); (try simp only [cond_true]); kernel_rfl) (by intro hb; have hb216 := hid (show ((!((ofB x0).Z r1))) = false from nnb hb); intro x hx; exact ref_may_0 (ofB x1) r1 (by omega) _) ?_
        simp only [sA, sB]
        refine lin_if (i := 10) (v := .bool ((!((ofB x1).Z r1)))) (!(!((ofB x0).Z r1))) rfl rfl (by generalize (!((ofB x0).Z r1)) = gg0; cases gg0 <;> rfl) (by intro hb; have hb217 := hid (show ((!((ofB x0).Z r1))) = false from nnb hb); intro x hx; (try simp only [hb]); (try simp only [cond_true]); go_simp; (first | done | exact rfl)) ?_
        simp only [sA, sB]
        refine lv 11 (.bool ((bif (!((ofB x0).Z r1)) then true else (!((ofB x1).Z r1))))) rfl rfl (by intro x hx; (cases hq : ((!((ofB x0).Z r1))) <;> first | rfl | (simp only [hq]; rfl) | simp [hq])) ?_
        simp only [sA, sB]
        refine lm 12 51 rfl rfl rfl rfl ?_
        simp only [sA, sB]
        refine lin_if (i := 13) (v := .int .i64 1) (!(bif (!((ofB x0).Z r1)) then true else (!((ofB x1).Z r1)))) rfl rfl (by generalize (bif (!((ofB x0).Z r1)) then true else (!((ofB x1).Z r1))) = gg0; cases gg0 <;> rfl) (by intro hb; have hb218 := hid (show ((bif (!((ofB x0).Z r1)) then true else (!((ofB x1).Z r1)))) = false from nnb hb); intro x hx; (try simp only [hb]); (try simp only [cond_true]); go_simp; (first | done | exact rfl)) ?_
        simp only [sA, sB]
        refine lin_if (i := 14) (v := .pointer (some ⟨k4, 1, none⟩)) (!(bif (!((ofB x0).Z r1)) then true else (!((ofB x1).Z r1)))) rfl rfl (by generalize (bif (!((ofB x0).Z r1)) then true else (!((ofB x1).Z r1))) = gg0; cases gg0 <;> rfl) (by intro hb; have hb219 := hid (show ((bif (!((ofB x0).Z r1)) then true else (!((ofB x1).Z r1)))) = false from nnb hb); intro x hx; (try simp only [hb]); (try simp only [cond_true]); go_simp; (first | done | exact rfl)) ?_
        simp only [sA, sB]
        refine lin_if (i := 15) (v := .bool ((cars bor3 (ofB x0) (ofB x1) r1).2)) (!(bif (!((ofB x0).Z r1)) then true else (!((ofB x1).Z r1)))) rfl rfl (by generalize (bif (!((ofB x0).Z r1)) then true else (!((ofB x1).Z r1))) = gg0; cases gg0 <;> rfl) (by intro hb; have hb220 := hid (show ((bif (!((ofB x0).Z r1)) then true else (!((ofB x1).Z r1)))) = false from nnb hb); intro x hx; (try simp only [hb]); (try simp only [cond_true]); have f0 := hx.load 6 1 rfl rfl; go_simp; (first | done | exact rfl)) ?_
        simp only [sA, sB]
        refine lin_if (i := 16) (v := .bool ((!((cars bor3 (ofB x0) (ofB x1) r1).2)))) (!(bif (!((ofB x0).Z r1)) then true else (!((ofB x1).Z r1)))) rfl rfl (by generalize (bif (!((ofB x0).Z r1)) then true else (!((ofB x1).Z r1))) = gg0; cases gg0 <;> rfl) (by intro hb; have hb221 := hid (show ((bif (!((ofB x0).Z r1)) then true else (!((ofB x1).Z r1)))) = false from nnb hb); intro x hx; (try simp only [hb]); (try simp only [cond_true]); go_simp; (first | done | exact rfl)) ?_
        simp only [sA, sB]
        refine lv 17 (.bool ((bif (bif (!((ofB x0).Z r1)) then true else (!((ofB x1).Z r1))) then true else (!((cars bor3 (ofB x0) (ofB x1) r1).2))))) rfl rfl (by intro x hx; (cases hq : ((bif (!((ofB x0).Z r1)) then true else (!((ofB x1).Z r1)))) <;> first | rfl | (simp only [hq]; rfl) | simp [hq])) ?_
        simp only [sA, sB]
        clear HS
        refine ld fun W13 HS => ?_
        cases h1 : ((bif (bif (!((ofB x0).Z r1)) then true else (!((ofB x1).Z r1))) then true else (!((cars bor3 (ofB x0) (ofB x1) r1).2))))
        ·replace h1 := hid h1
         go_upto_region 16 with fail
         refine lnb HS.out rfl ?_
         refine lm 0 14 rfl rfl rfl rfl ?_
         simp only [sA, sB]
         refine lm 1 15 rfl rfl rfl rfl ?_
         simp only [sA, sB]
         refine lv 2 (.int .i64 0) rfl rfl (by intro x hx; go_simp; (first | done | exact rfl)) ?_
         simp only [sA, sB]
         refine lm 3 16 rfl rfl rfl rfl ?_
         simp only [sA, sB]
         refine lv 4 (.int .i64 1) rfl rfl (by intro x hx; go_simp; (first | done | exact rfl)) ?_
         simp only [sA, sB]
         refine la 5 62 rfl rfl rfl rfl ?_
         simp only [sA, sB]
         clear HS
         refine ld fun W14 HS => ?_
         go_upto_region 17 with fail
         refine lnb HS.out rfl ?_
         refine lm 0 2 rfl rfl rfl rfl ?_
         simp only [sA, sB]
         clear HS
         refine ld fun W15 HS => ?_
         go_upto_region 18 with fail
         refine lnb HS.out rfl ?_
         refine lm 0 14 rfl rfl rfl rfl ?_
         simp only [sA, sB]
         refine lm 1 15 rfl rfl rfl rfl ?_
         simp only [sA, sB]
         refine lv 2 (.int .i64 0) rfl rfl (by intro x hx; go_simp; (first | done | exact rfl)) ?_
         simp only [sA, sB]
         refine lm 3 16 rfl rfl rfl rfl ?_
         simp only [sA, sB]
         refine lv 4 (.int .i64 (-1)) rfl rfl (by intro x hx; go_simp; (first | done | exact rfl)) ?_
         simp only [sA, sB]
         refine lv 5 (.int .i64 3) rfl rfl (by intro x hx; go_simp; (first | done | exact rfl)) ?_
         simp only [sA, sB]
         refine la 6 69 rfl rfl rfl rfl ?_
         simp only [sA, sB]
         clear HS
         refine ld fun W16 HS => ?_
         go_upto_region 19 with fail
         refine lnb HS.out rfl ?_
         refine lm 0 17 rfl rfl rfl rfl ?_
         simp only [sA, sB]
         refine lv 1 (.int .i64 1) rfl rfl (by intro x hx; go_simp; (first | done | exact rfl)) ?_
         simp only [sA, sB]
         refine lv 2 (.bool true) rfl rfl (by intro x hx; go_simp; (first | done | exact rfl)) ?_
         simp only [sA, sB]
         clear HS
         refine ld fun W17 HS => ?_
         go_upto_region 20 with fail
         refine lnb HS.out rfl ?_
         refine lm 0 11 rfl rfl rfl rfl ?_
         simp only [sA, sB]
         refine lv 1 (.pointer (some ⟨k3, 64, none⟩)) rfl rfl (by intro x hx; go_simp; (first | done | exact rfl)) ?_
         simp only [sA, sB]
         refine lv 2 (.pointer (some ⟨k3, 64 + r1, none⟩)) rfl rfl (by intro x hx; go_simp; first | (rw [if_pos (by omega)]; done) | (rw [if_pos (by omega)]; rfl) | (intro hq; exfalso; omega) | (simp; omega)) ?_
         simp only [sA, sB]
         refine lin_store (i := 3) (St w [⟨w.heap.size, [some (.int .u64 (tn (x0.lo))), some (.int .u64 (tn (x0.hi)))], 24⟩, ⟨w.heap.size + 1, [some (.int .u64 (tn (x1.lo))), some (.int .u64 (tn (x1.hi)))], 24⟩, ⟨w.heap.size + 2, [some (.int .u64 0), some (.int .u64 0)], 24⟩, ⟨k1, ((fnV 128 (two 64 (ofB x0).Z (ofB x0).O)).map some), 48⟩, ⟨k2, ((fnV 128 (two 64 (ofB x1).Z (ofB x1).O)).map some), 48⟩, ⟨k3, ((fnV 128 (upd (two 64 (upd (upto r1 (sumB bor3 (ofB x0) (ofB x1)).Z) r1 (someTo (fun p q c => !odd3 p q c) (ofB x0) (ofB x1) (cars bor3 (ofB x0) (ofB x1) r1) r1 4)) (upd (upto r1 (sumB bor3 (ofB x0) (ofB x1)).O) r1 (someTo odd3 (ofB x0) (ofB x1) (cars bor3 (ofB x0) (ofB x1) r1) r1 4))) (64 + r1) true)).map some), 48⟩, ⟨k4, [some (.bool ((cars bor3 (ofB x0) (ofB x1) r1).1)), some (.bool ((cars bor3 (ofB x0) (ofB x1) r1).2))], 60⟩, ⟨k5, [some (.bool ((someTo (fun p q c => !bor3 p q c) (ofB x0) (ofB x1) (cars bor3 (ofB x0) (ofB x1) r1) r1 4))), some (.bool ((someTo bor3 (ofB x0) (ofB x1) (cars bor3 (ofB x0) (ofB x1) r1) r1 4)))], 60⟩]) rfl rfl (by rfl) (fun x => x.setCell ⟨k3, 64 + r1, none⟩ (.bool true)) (by intro x hx; have z0 := hx.fn 5 (64 + r1) rfl (by omega); have q0 := hx.soft 5 (64 + r1) rfl; go_simp; (first | done | rfl)) (fun x hx => hx.fnset 5 (64 + r1) true rfl) ?_
         clear HS
         refine ld fun W18 HS => ?_
         go_upto_region 22 with fail
         refine lnb HS.out rfl ?_
         refine lm 0 17 rfl rfl rfl rfl ?_
         simp only [sA, sB]
         refine lv 1 (.bool true) rfl rfl (by intro x hx; go_simp; (first | done | exact rfl)) ?_
         simp only [sA, sB]
         refine la 2 80 rfl rfl rfl rfl ?_
         simp only [sA, sB]
         clear HS
         refine ld fun W19 HS => ?_
         go_upto_region 23 with fail
         refine lnb HS.out rfl ?_
         refine lm 0 2 rfl rfl rfl rfl ?_
         simp only [sA, sB]
         clear HS
         refine ld fun W20 HS => ?_
         go_upto_region 24 with fail
         refine lnb HS.out rfl ?_
         refine lm 0 17 rfl rfl rfl rfl ?_
         simp only [sA, sB]
         refine lv 1 (.bool true) rfl rfl (by intro x hx; go_simp; (first | done | exact rfl)) ?_
         simp only [sA, sB]
         refine la 2 83 rfl rfl rfl rfl ?_
         simp only [sA, sB]
         clear HS
         refine ld fun W21 HS => ?_
         go_upto_region 25 with fail
         refine lnb HS.out rfl ?_
         refine lm 0 18 rfl rfl rfl rfl ?_
         simp only [sA, sB]
         clear HS
         refine ld fun W22 HS => ?_
         go_upto_region 26 with fail
         refine lnb HS.out rfl ?_
         refine lv 0 (.pointer (some ⟨k5, 1, none⟩)) rfl rfl (by intro x hx; go_simp; (first | done | exact rfl)) ?_
         simp only [sA, sB]
         refine ls 1 7 1 [.bool true] rfl rfl rfl (by intro x hx; obtain ⟨_, z0, q0⟩ := hx.at1 7 1 rfl; go_simp; (first | done | rfl)) ?_
         simp only [Blk.putC, setM, sA, sB]
         clear HS
         refine ld fun W23 HS => ?_
         go_upto_region 11 with fail
         refine lnb HS.out rfl ?_
         refine lm 0 13 rfl rfl rfl rfl ?_
         simp only [sA, sB]
         refine lv 1 (.int .i64 5) rfl rfl (by intro x hx; go_simp; (first | done | exact rfl)) ?_
         simp only [sA, sB]
         refine la 2 32 rfl rfl rfl rfl ?_
         simp only [sA, sB]
         clear HS
         refine ld fun W24 HS => ?_
         go_wp2
         exact ⟨hlt2, hid ⟨_, _, _, _, _, _, _, _, _, _, _, _, _, _, _, _, _, _, _, _, _, _, _, _, _, _, _, _, _, _, _, _, _, _, _, _, _, _, _, _, _, _, _, _, _, _, _, _, _, _, _, _, _, _, _, _, _, _, _, _, _, _, _, rfl, (by have h := HS.out; rw [upd_hi, upd_upd] at h; rw [to_same (f := (fun p q c => !odd3 p q c)) (x := (ofB x0)) (y := (ofB x1)) (c := (cars bor3 (ofB x0) (ofB x1) r1)) (r := r1) (k := 4) ((turn_yes (f := (fun p q c => !odd3 p q c)) (p := false) (q := false) (c := true) h1.out).trans rfl), to_true (f := odd3) (x := (ofB x0)) (y := (ofB x1)) (c := (cars bor3 (ofB x0) (ofB x1) r1)) (r := r1) (k := 4) ((turn_yes (f := odd3) (p := false) (q := false) (c := true) h1.out).trans rfl), to_same (f := (fun p q c => !bor3 p q c)) (x := (ofB x0)) (y := (ofB x1)) (c := (cars bor3 (ofB x0) (ofB x1) r1)) (r := r1) (k := 4) ((turn_yes (f := (fun p q c => !bor3 p q c)) (p := false) (q := false) (c := true) h1.out).trans rfl), to_true (f := bor3) (x := (ofB x0)) (y := (ofB x1)) (c := (cars bor3 (ofB x0) (ofB x1) r1)) (r := r1) (k := 4) ((turn_yes (f := bor3) (p := false) (q := false) (c := true) h1.out).trans rfl)]; exact h)⟩⟩
        ·replace h1 := hid h1
         go_upto_region 11 with fail
         refine lnb HS.out rfl ?_
         refine lm 0 13 rfl rfl rfl rfl ?_
         simp only [sA, sB]
         refine lv 1 (.int .i64 5) rfl rfl (by intro x hx; go_simp; (first | done | exact rfl)) ?_
         simp only [sA, sB]
         refine la 2 32 rfl rfl rfl rfl ?_
         simp only [sA, sB]
         clear HS
         refine ld fun W14 HS => ?_
         go_wp2
         exact ⟨hlt2, hid ⟨_, _, _, _, _, _, _, _, _, _, _, _, _, _, _, _, _, _, _, _, _, _, _, _, _, _, _, _, _, _, _, _, _, _, _, _, _, _, _, _, _, _, _, _, _, _, _, _, _, _, _, _, _, _, _, _, _, _, _, _, _, _, _, rfl, (by rw [to_same (f := (fun p q c => !odd3 p q c)) (x := (ofB x0)) (y := (ofB x1)) (c := (cars bor3 (ofB x0) (ofB x1) r1)) (r := r1) (k := 4) (turn_no (f := (fun p q c => !odd3 p q c)) (p := false) (q := false) (c := true) h1.out), to_same (f := odd3) (x := (ofB x0)) (y := (ofB x1)) (c := (cars bor3 (ofB x0) (ofB x1) r1)) (r := r1) (k := 4) (turn_no (f := odd3) (p := false) (q := false) (c := true) h1.out), to_same (f := (fun p q c => !bor3 p q c)) (x := (ofB x0)) (y := (ofB x1)) (c := (cars bor3 (ofB x0) (ofB x1) r1)) (r := r1) (k := 4) (turn_no (f := (fun p q c => !bor3 p q c)) (p := false) (q := false) (c := true) h1.out), to_same (f := bor3) (x := (ofB x0)) (y := (ofB x1)) (c := (cars bor3 (ofB x0) (ofB x1) r1)) (r := r1) (k := 4) (turn_no (f := bor3) (p := false) (q := false) (c := true) h1.out)]; exact HS.out)⟩⟩
      · rw [show ((5 : Nat) : Int) = 5 from rfl]
        go_upto_region 10 with fail
        refine lnb HS.out rfl ?_
        refine lm 0 13 rfl rfl rfl rfl ?_
        simp only [sA, sB]
        refine lv 1 (.bool true) rfl rfl (by intro x hx; go_simp; (first | done | exact rfl)) ?_
        simp only [sA, sB]
        clear HS
        refine ld fun W9 HS => ?_
        go_upto_region 12 with fail
        refine lnb HS.out rfl ?_
        refine lm 0 13 rfl rfl rfl rfl ?_
        simp only [sA, sB]
        refine lv 1 (.int .i64 1) rfl rfl (by intro x hx; go_simp; (first | done | exact rfl)) ?_
        simp only [sA, sB]
        refine la 2 34 rfl rfl rfl rfl ?_
        simp only [sA, sB]
        clear HS
        refine ld fun W10 HS => ?_
        go_upto_region 13 with fail
        refine lnb HS.out rfl ?_
        refine lm 0 13 rfl rfl rfl rfl ?_
        simp only [sA, sB]
        refine lv 1 (.int .i64 2) rfl rfl (by intro x hx; go_simp; (first | done | exact rfl)) ?_
        simp only [sA, sB]
        refine lv 2 (.int .i64 0) rfl rfl (by intro x hx; go_simp; (first | done | exact rfl)) ?_
        simp only [sA, sB]
        refine la 3 37 rfl rfl rfl rfl ?_
        simp only [sA, sB]
        clear HS
        refine ld fun W11 HS => ?_
        go_upto_region 14 with fail
        refine lnb HS.out rfl ?_
        refine lm 0 13 rfl rfl rfl rfl ?_
        simp only [sA, sB]
        refine lv 1 (.int .i64 1) rfl rfl (by intro x hx; go_simp; (first | done | exact rfl)) ?_
        simp only [sA, sB]
        refine la 2 39 rfl rfl rfl rfl ?_
        simp only [sA, sB]
        clear HS
        refine ld fun W12 HS => ?_
        go_upto_region 15 with fail
        refine lnb HS.out rfl ?_
        refine lv 0 (.agg (fnV 128 (two 64 (ofB x0).Z (ofB x0).O)).toArray) rfl rfl (by intro x hx; exact loadF hx 3 rfl rfl rfl (fun w => by kernel_rfl) (fun w => by kernel_rfl)) ?_
        simp only [sA, sB]
        refine lm 1 11 rfl rfl rfl rfl ?_
        simp only [sA, sB]
        refine lm 2 14 rfl rfl rfl rfl ?_
        simp only [sA, sB]
        refine lc 3 51 #[.agg (fnV 128 (two 64 (ofB x0).Z (ofB x0).O)).toArray, .int .i64 ((r1 : Nat) : Int), .int .i64 1] (.bool ((ofB x0).O r1)) rfl rfl (by intro x hx; exact ref_may_1 (ofB x0) r1 (by omega) _) ?_
        simp only [sA, sB]
        refine lv 4 (.bool ((!((ofB x0).O r1)))) rfl rfl (by intro x hx; go_simp; (first | done | exact rfl)) ?_
        simp only [sA, sB]
        refine lm 5 44 rfl rfl rfl rfl ?_
        simp only [sA, sB]
        refine lin_if (i := 6) (v := .agg (fnV 128 (two 64 (ofB x1).Z (ofB x1).O)).toArray) (!(!((ofB x0).O r1))) rfl rfl (by generalize (!((ofB x0).O r1)) = gg0; cases gg0 <;> rfl) (by intro hb; have hb222 := hid (show ((!((ofB x0).O r1))) = false from nnb hb); intro x hx; (try simp only [hb]); (try simp only [cond_true]); exact loadF hx 4 rfl rfl rfl (fun w => by kernel_rfl) (fun w => by kernel_rfl)) ?_
        simp only [sA, sB]
        refine lin_if (i := 7) (v := .int .i64 ((r1 : Nat) : Int)) (!(!((ofB x0).O r1))) rfl rfl (by generalize (!((ofB x0).O r1)) = gg0; cases gg0 <;> rfl) (by intro hb; have hb223 := hid (show ((!((ofB x0).O r1))) = false from nnb hb); intro x hx; (try simp only [hb]); (try simp only [cond_true]); go_simp; (first | done | exact rfl)) ?_
        simp only [sA, sB]
        refine lin_if (i := 8) (v := .int .i64 0) (!(!((ofB x0).O r1))) rfl rfl (by generalize (!((ofB x0).O r1)) = gg0; cases gg0 <;> rfl) (by intro hb; have hb224 := hid (show ((!((ofB x0).O r1))) = false from nnb hb); intro x hx; (try simp only [hb]); (try simp only [cond_true]); go_simp; (first | done | exact rfl)) ?_
        simp only [sA, sB]
        refine lin_if_call (i := 9) (f := 51) (args := #[.agg (fnV 128 (two 64 (ofB x1).Z (ofB x1).O)).toArray, .int .i64 ((r1 : Nat) : Int), .int .i64 0]) (v := .bool ((ofB x1).Z r1)) (!(!((ofB x0).O r1))) (st_ups _ _) rfl rfl (by generalize (!((ofB x0).O r1)) = gg0; cases gg0 <;> rfl) (by intro hb; have hb225 := hid (show ((!((ofB x0).O r1))) = false from nnb hb); intro x hx; (try simp only [hb]); (try simp only [cond_true]); kernel_rfl) (by intro hb; have hb225 := hid (show ((!((ofB x0).O r1))) = false from nnb hb); intro x hx; exact ref_may_0 (ofB x1) r1 (by omega) _) ?_
        simp only [sA, sB]
        refine lin_if (i := 10) (v := .bool ((!((ofB x1).Z r1)))) (!(!((ofB x0).O r1))) rfl rfl (by generalize (!((ofB x0).O r1)) = gg0; cases gg0 <;> rfl) (by intro hb; have hb226 := hid (show ((!((ofB x0).O r1))) = false from nnb hb); intro x hx; (try simp only [hb]); (try simp only [cond_true]); go_simp; (first | done | exact rfl)) ?_
        simp only [sA, sB]
        refine lv 11 (.bool ((bif (!((ofB x0).O r1)) then true else (!((ofB x1).Z r1))))) rfl rfl (by intro x hx; (cases hq : ((!((ofB x0).O r1))) <;> first | rfl | (simp only [hq]; rfl) | simp [hq])) ?_
        simp only [sA, sB]
        refine lm 12 51 rfl rfl rfl rfl ?_
        simp only [sA, sB]
        refine lin_if (i := 13) (v := .int .i64 1) (!(bif (!((ofB x0).O r1)) then true else (!((ofB x1).Z r1)))) rfl rfl (by generalize (bif (!((ofB x0).O r1)) then true else (!((ofB x1).Z r1))) = gg0; cases gg0 <;> rfl) (by intro hb; have hb227 := hid (show ((bif (!((ofB x0).O r1)) then true else (!((ofB x1).Z r1)))) = false from nnb hb); intro x hx; (try simp only [hb]); (try simp only [cond_true]); go_simp; (first | done | exact rfl)) ?_
        simp only [sA, sB]
        refine lin_if (i := 14) (v := .pointer (some ⟨k4, 1, none⟩)) (!(bif (!((ofB x0).O r1)) then true else (!((ofB x1).Z r1)))) rfl rfl (by generalize (bif (!((ofB x0).O r1)) then true else (!((ofB x1).Z r1))) = gg0; cases gg0 <;> rfl) (by intro hb; have hb228 := hid (show ((bif (!((ofB x0).O r1)) then true else (!((ofB x1).Z r1)))) = false from nnb hb); intro x hx; (try simp only [hb]); (try simp only [cond_true]); go_simp; (first | done | exact rfl)) ?_
        simp only [sA, sB]
        refine lin_if (i := 15) (v := .bool ((cars bor3 (ofB x0) (ofB x1) r1).2)) (!(bif (!((ofB x0).O r1)) then true else (!((ofB x1).Z r1)))) rfl rfl (by generalize (bif (!((ofB x0).O r1)) then true else (!((ofB x1).Z r1))) = gg0; cases gg0 <;> rfl) (by intro hb; have hb229 := hid (show ((bif (!((ofB x0).O r1)) then true else (!((ofB x1).Z r1)))) = false from nnb hb); intro x hx; (try simp only [hb]); (try simp only [cond_true]); have f0 := hx.load 6 1 rfl rfl; go_simp; (first | done | exact rfl)) ?_
        simp only [sA, sB]
        refine lin_if (i := 16) (v := .bool ((!((cars bor3 (ofB x0) (ofB x1) r1).2)))) (!(bif (!((ofB x0).O r1)) then true else (!((ofB x1).Z r1)))) rfl rfl (by generalize (bif (!((ofB x0).O r1)) then true else (!((ofB x1).Z r1))) = gg0; cases gg0 <;> rfl) (by intro hb; have hb230 := hid (show ((bif (!((ofB x0).O r1)) then true else (!((ofB x1).Z r1)))) = false from nnb hb); intro x hx; (try simp only [hb]); (try simp only [cond_true]); go_simp; (first | done | exact rfl)) ?_
        simp only [sA, sB]
        refine lv 17 (.bool ((bif (bif (!((ofB x0).O r1)) then true else (!((ofB x1).Z r1))) then true else (!((cars bor3 (ofB x0) (ofB x1) r1).2))))) rfl rfl (by intro x hx; (cases hq : ((bif (!((ofB x0).O r1)) then true else (!((ofB x1).Z r1)))) <;> first | rfl | (simp only [hq]; rfl) | simp [hq])) ?_
        simp only [sA, sB]
        clear HS
        refine ld fun W13 HS => ?_
        cases h1 : ((bif (bif (!((ofB x0).O r1)) then true else (!((ofB x1).Z r1))) then true else (!((cars bor3 (ofB x0) (ofB x1) r1).2))))
        ·replace h1 := hid h1
         go_upto_region 16 with fail
         refine lnb HS.out rfl ?_
         refine lm 0 14 rfl rfl rfl rfl ?_
         simp only [sA, sB]
         refine lm 1 15 rfl rfl rfl rfl ?_
         simp only [sA, sB]
         refine lv 2 (.int .i64 1) rfl rfl (by intro x hx; go_simp; (first | done | exact rfl)) ?_
         simp only [sA, sB]
         refine lm 3 16 rfl rfl rfl rfl ?_
         simp only [sA, sB]
         refine lv 4 (.int .i64 2) rfl rfl (by intro x hx; go_simp; (first | done | exact rfl)) ?_
         simp only [sA, sB]
         refine la 5 62 rfl rfl rfl rfl ?_
         simp only [sA, sB]
         clear HS
         refine ld fun W14 HS => ?_
         go_upto_region 17 with fail
         refine lnb HS.out rfl ?_
         refine lm 0 2 rfl rfl rfl rfl ?_
         simp only [sA, sB]
         clear HS
         refine ld fun W15 HS => ?_
         go_upto_region 18 with fail
         refine lnb HS.out rfl ?_
         refine lm 0 14 rfl rfl rfl rfl ?_
         simp only [sA, sB]
         refine lm 1 15 rfl rfl rfl rfl ?_
         simp only [sA, sB]
         refine lv 2 (.int .i64 1) rfl rfl (by intro x hx; go_simp; (first | done | exact rfl)) ?_
         simp only [sA, sB]
         refine lm 3 16 rfl rfl rfl rfl ?_
         simp only [sA, sB]
         refine lv 4 (.int .i64 0) rfl rfl (by intro x hx; go_simp; (first | done | exact rfl)) ?_
         simp only [sA, sB]
         refine lv 5 (.int .i64 4) rfl rfl (by intro x hx; go_simp; (first | done | exact rfl)) ?_
         simp only [sA, sB]
         refine la 6 69 rfl rfl rfl rfl ?_
         simp only [sA, sB]
         clear HS
         refine ld fun W16 HS => ?_
         go_upto_region 19 with fail
         refine lnb HS.out rfl ?_
         refine lm 0 17 rfl rfl rfl rfl ?_
         simp only [sA, sB]
         refine lv 1 (.int .i64 0) rfl rfl (by intro x hx; go_simp; (first | done | exact rfl)) ?_
         simp only [sA, sB]
         refine lv 2 (.bool false) rfl rfl (by intro x hx; go_simp; (first | done | exact rfl)) ?_
         simp only [sA, sB]
         clear HS
         refine ld fun W17 HS => ?_
         go_upto_region 21 with fail
         refine lnb HS.out rfl ?_
         refine lm 0 11 rfl rfl rfl rfl ?_
         simp only [sA, sB]
         refine lv 1 (.pointer (some ⟨k3, 0, none⟩)) rfl rfl (by intro x hx; go_simp; (first | done | exact rfl)) ?_
         simp only [sA, sB]
         refine lv 2 (.pointer (some ⟨k3, r1, none⟩)) rfl rfl (by intro x hx; go_simp; first | (rw [if_pos (by omega)]; done) | (rw [if_pos (by omega)]; rfl) | (intro hq; exfalso; omega) | (simp; omega)) ?_
         simp only [sA, sB]
         refine lin_store (i := 3) (St w [⟨w.heap.size, [some (.int .u64 (tn (x0.lo))), some (.int .u64 (tn (x0.hi)))], 24⟩, ⟨w.heap.size + 1, [some (.int .u64 (tn (x1.lo))), some (.int .u64 (tn (x1.hi)))], 24⟩, ⟨w.heap.size + 2, [some (.int .u64 0), some (.int .u64 0)], 24⟩, ⟨k1, ((fnV 128 (two 64 (ofB x0).Z (ofB x0).O)).map some), 48⟩, ⟨k2, ((fnV 128 (two 64 (ofB x1).Z (ofB x1).O)).map some), 48⟩, ⟨k3, ((fnV 128 (upd (two 64 (upd (upto r1 (sumB bor3 (ofB x0) (ofB x1)).Z) r1 (someTo (fun p q c => !odd3 p q c) (ofB x0) (ofB x1) (cars bor3 (ofB x0) (ofB x1) r1) r1 5)) (upd (upto r1 (sumB bor3 (ofB x0) (ofB x1)).O) r1 (someTo odd3 (ofB x0) (ofB x1) (cars bor3 (ofB x0) (ofB x1) r1) r1 5))) r1 true)).map some), 48⟩, ⟨k4, [some (.bool ((cars bor3 (ofB x0) (ofB x1) r1).1)), some (.bool ((cars bor3 (ofB x0) (ofB x1) r1).2))], 60⟩, ⟨k5, [some (.bool ((someTo (fun p q c => !bor3 p q c) (ofB x0) (ofB x1) (cars bor3 (ofB x0) (ofB x1) r1) r1 5))), some (.bool ((someTo bor3 (ofB x0) (ofB x1) (cars bor3 (ofB x0) (ofB x1) r1) r1 5)))], 60⟩]) rfl rfl (by rfl) (fun x => x.setCell ⟨k3, r1, none⟩ (.bool true)) (by intro x hx; have z0 := hx.fn 5 (r1) rfl (by omega); have q0 := hx.soft 5 (r1) rfl; go_simp; (first | done | rfl)) (fun x hx => hx.fnset 5 (r1) true rfl) ?_
         clear HS
         refine ld fun W18 HS => ?_
         go_upto_region 22 with fail
         refine lnb HS.out rfl ?_
         refine lm 0 17 rfl rfl rfl rfl ?_
         simp only [sA, sB]
         refine lv 1 (.bool true) rfl rfl (by intro x hx; go_simp; (first | done | exact rfl)) ?_
         simp only [sA, sB]
         refine la 2 80 rfl rfl rfl rfl ?_
         simp only [sA, sB]
         clear HS
         refine ld fun W19 HS => ?_
         go_upto_region 23 with fail
         refine lnb HS.out rfl ?_
         refine lm 0 2 rfl rfl rfl rfl ?_
         simp only [sA, sB]
         clear HS
         refine ld fun W20 HS => ?_
         go_upto_region 24 with fail
         refine lnb HS.out rfl ?_
         refine lm 0 17 rfl rfl rfl rfl ?_
         simp only [sA, sB]
         refine lv 1 (.bool false) rfl rfl (by intro x hx; go_simp; (first | done | exact rfl)) ?_
         simp only [sA, sB]
         refine la 2 83 rfl rfl rfl rfl ?_
         simp only [sA, sB]
         clear HS
         refine ld fun W21 HS => ?_
         go_upto_region 25 with fail
         refine lnb HS.out rfl ?_
         refine lm 0 18 rfl rfl rfl rfl ?_
         simp only [sA, sB]
         clear HS
         refine ld fun W22 HS => ?_
         go_upto_region 27 with fail
         refine lnb HS.out rfl ?_
         refine lv 0 (.pointer (some ⟨k5, 0, none⟩)) rfl rfl (by intro x hx; go_simp; (first | done | exact rfl)) ?_
         simp only [sA, sB]
         refine ls 1 7 0 [.bool true] rfl rfl rfl (by intro x hx; obtain ⟨_, z0, q0⟩ := hx.at1 7 0 rfl; go_simp; (first | done | rfl)) ?_
         simp only [Blk.putC, setM, sA, sB]
         clear HS
         refine ld fun W23 HS => ?_
         go_upto_region 11 with fail
         refine lnb HS.out rfl ?_
         refine lm 0 13 rfl rfl rfl rfl ?_
         simp only [sA, sB]
         refine lv 1 (.int .i64 6) rfl rfl (by intro x hx; go_simp; (first | done | exact rfl)) ?_
         simp only [sA, sB]
         refine la 2 32 rfl rfl rfl rfl ?_
         simp only [sA, sB]
         clear HS
         refine ld fun W24 HS => ?_
         go_wp2
         exact ⟨hlt2, hid ⟨_, _, _, _, _, _, _, _, _, _, _, _, _, _, _, _, _, _, _, _, _, _, _, _, _, _, _, _, _, _, _, _, _, _, _, _, _, _, _, _, _, _, _, _, _, _, _, _, _, _, _, _, _, _, _, _, _, _, _, _, _, _, _, rfl, (by have h := HS.out; rw [upd_lo (by omega), upd_upd] at h; rw [to_true (f := (fun p q c => !odd3 p q c)) (x := (ofB x0)) (y := (ofB x1)) (c := (cars bor3 (ofB x0) (ofB x1) r1)) (r := r1) (k := 5) ((turn_yes (f := (fun p q c => !odd3 p q c)) (p := true) (q := false) (c := true) h1.out).trans rfl), to_same (f := odd3) (x := (ofB x0)) (y := (ofB x1)) (c := (cars bor3 (ofB x0) (ofB x1) r1)) (r := r1) (k := 5) ((turn_yes (f := odd3) (p := true) (q := false) (c := true) h1.out).trans rfl), to_true (f := (fun p q c => !bor3 p q c)) (x := (ofB x0)) (y := (ofB x1)) (c := (cars bor3 (ofB x0) (ofB x1) r1)) (r := r1) (k := 5) ((turn_yes (f := (fun p q c => !bor3 p q c)) (p := true) (q := false) (c := true) h1.out).trans rfl), to_same (f := bor3) (x := (ofB x0)) (y := (ofB x1)) (c := (cars bor3 (ofB x0) (ofB x1) r1)) (r := r1) (k := 5) ((turn_yes (f := bor3) (p := true) (q := false) (c := true) h1.out).trans rfl)]; exact h)⟩⟩
        ·replace h1 := hid h1
         go_upto_region 11 with fail
         refine lnb HS.out rfl ?_
         refine lm 0 13 rfl rfl rfl rfl ?_
         simp only [sA, sB]
         refine lv 1 (.int .i64 6) rfl rfl (by intro x hx; go_simp; (first | done | exact rfl)) ?_
         simp only [sA, sB]
         refine la 2 32 rfl rfl rfl rfl ?_
         simp only [sA, sB]
         clear HS
         refine ld fun W14 HS => ?_
         go_wp2
         exact ⟨hlt2, hid ⟨_, _, _, _, _, _, _, _, _, _, _, _, _, _, _, _, _, _, _, _, _, _, _, _, _, _, _, _, _, _, _, _, _, _, _, _, _, _, _, _, _, _, _, _, _, _, _, _, _, _, _, _, _, _, _, _, _, _, _, _, _, _, _, rfl, (by rw [to_same (f := (fun p q c => !odd3 p q c)) (x := (ofB x0)) (y := (ofB x1)) (c := (cars bor3 (ofB x0) (ofB x1) r1)) (r := r1) (k := 5) (turn_no (f := (fun p q c => !odd3 p q c)) (p := true) (q := false) (c := true) h1.out), to_same (f := odd3) (x := (ofB x0)) (y := (ofB x1)) (c := (cars bor3 (ofB x0) (ofB x1) r1)) (r := r1) (k := 5) (turn_no (f := odd3) (p := true) (q := false) (c := true) h1.out), to_same (f := (fun p q c => !bor3 p q c)) (x := (ofB x0)) (y := (ofB x1)) (c := (cars bor3 (ofB x0) (ofB x1) r1)) (r := r1) (k := 5) (turn_no (f := (fun p q c => !bor3 p q c)) (p := true) (q := false) (c := true) h1.out), to_same (f := bor3) (x := (ofB x0)) (y := (ofB x1)) (c := (cars bor3 (ofB x0) (ofB x1) r1)) (r := r1) (k := 5) (turn_no (f := bor3) (p := true) (q := false) (c := true) h1.out)]; exact HS.out)⟩⟩
      · rw [show ((6 : Nat) : Int) = 6 from rfl]
        go_upto_region 10 with fail
        refine lnb HS.out rfl ?_
        refine lm 0 13 rfl rfl rfl rfl ?_
        simp only [sA, sB]
        refine lv 1 (.bool true) rfl rfl (by intro x hx; go_simp; (first | done | exact rfl)) ?_
        simp only [sA, sB]
        clear HS
        refine ld fun W9 HS => ?_
        go_upto_region 12 with fail
        refine lnb HS.out rfl ?_
        refine lm 0 13 rfl rfl rfl rfl ?_
        simp only [sA, sB]
        refine lv 1 (.int .i64 0) rfl rfl (by intro x hx; go_simp; (first | done | exact rfl)) ?_
        simp only [sA, sB]
        refine la 2 34 rfl rfl rfl rfl ?_
        simp only [sA, sB]
        clear HS
        refine ld fun W10 HS => ?_
        go_upto_region 13 with fail
        refine lnb HS.out rfl ?_
        refine lm 0 13 rfl rfl rfl rfl ?_
        simp only [sA, sB]
        refine lv 1 (.int .i64 3) rfl rfl (by intro x hx; go_simp; (first | done | exact rfl)) ?_
        simp only [sA, sB]
        refine lv 2 (.int .i64 1) rfl rfl (by intro x hx; go_simp; (first | done | exact rfl)) ?_
        simp only [sA, sB]
        refine la 3 37 rfl rfl rfl rfl ?_
        simp only [sA, sB]
        clear HS
        refine ld fun W11 HS => ?_
        go_upto_region 14 with fail
        refine lnb HS.out rfl ?_
        refine lm 0 13 rfl rfl rfl rfl ?_
        simp only [sA, sB]
        refine lv 1 (.int .i64 1) rfl rfl (by intro x hx; go_simp; (first | done | exact rfl)) ?_
        simp only [sA, sB]
        refine la 2 39 rfl rfl rfl rfl ?_
        simp only [sA, sB]
        clear HS
        refine ld fun W12 HS => ?_
        go_upto_region 15 with fail
        refine lnb HS.out rfl ?_
        refine lv 0 (.agg (fnV 128 (two 64 (ofB x0).Z (ofB x0).O)).toArray) rfl rfl (by intro x hx; exact loadF hx 3 rfl rfl rfl (fun w => by kernel_rfl) (fun w => by kernel_rfl)) ?_
        simp only [sA, sB]
        refine lm 1 11 rfl rfl rfl rfl ?_
        simp only [sA, sB]
        refine lm 2 14 rfl rfl rfl rfl ?_
        simp only [sA, sB]
        refine lc 3 51 #[.agg (fnV 128 (two 64 (ofB x0).Z (ofB x0).O)).toArray, .int .i64 ((r1 : Nat) : Int), .int .i64 0] (.bool ((ofB x0).Z r1)) rfl rfl (by intro x hx; exact ref_may_0 (ofB x0) r1 (by omega) _) ?_
        simp only [sA, sB]
        refine lv 4 (.bool ((!((ofB x0).Z r1)))) rfl rfl (by intro x hx; go_simp; (first | done | exact rfl)) ?_
        simp only [sA, sB]
        refine lm 5 44 rfl rfl rfl rfl ?_
        simp only [sA, sB]
        refine lin_if (i := 6) (v := .agg (fnV 128 (two 64 (ofB x1).Z (ofB x1).O)).toArray) (!(!((ofB x0).Z r1))) rfl rfl (by generalize (!((ofB x0).Z r1)) = gg0; cases gg0 <;> rfl) (by intro hb; have hb231 := hid (show ((!((ofB x0).Z r1))) = false from nnb hb); intro x hx; (try simp only [hb]); (try simp only [cond_true]); exact loadF hx 4 rfl rfl rfl (fun w => by kernel_rfl) (fun w => by kernel_rfl)) ?_
        simp only [sA, sB]
        refine lin_if (i := 7) (v := .int .i64 ((r1 : Nat) : Int)) (!(!((ofB x0).Z r1))) rfl rfl (by generalize (!((ofB x0).Z r1)) = gg0; cases gg0 <;> rfl) (by intro hb; have hb232 := hid (show ((!((ofB x0).Z r1))) = false from nnb hb); intro x hx; (try simp only [hb]); (try simp only [cond_true]); go_simp; (first | done | exact rfl)) ?_
        simp only [sA, sB]
        refine lin_if (i := 8) (v := .int .i64 1) (!(!((ofB x0).Z r1))) rfl rfl (by generalize (!((ofB x0).Z r1)) = gg0; cases gg0 <;> rfl) (by intro hb; have hb233 := hid (show ((!((ofB x0).Z r1))) = false from nnb hb); intro x hx; (try simp only [hb]); (try simp only [cond_true]); go_simp; (first | done | exact rfl)) ?_
        simp only [sA, sB]
        refine lin_if_call (i := 9) (f := 51) (args := #[.agg (fnV 128 (two 64 (ofB x1).Z (ofB x1).O)).toArray, .int .i64 ((r1 : Nat) : Int), .int .i64 1]) (v := .bool ((ofB x1).O r1)) (!(!((ofB x0).Z r1))) (st_ups _ _) rfl rfl (by generalize (!((ofB x0).Z r1)) = gg0; cases gg0 <;> rfl) (by intro hb; have hb234 := hid (show ((!((ofB x0).Z r1))) = false from nnb hb); intro x hx; (try simp only [hb]); (try simp only [cond_true]); kernel_rfl) (by intro hb; have hb234 := hid (show ((!((ofB x0).Z r1))) = false from nnb hb); intro x hx; exact ref_may_1 (ofB x1) r1 (by omega) _) ?_
        simp only [sA, sB]
        refine lin_if (i := 10) (v := .bool ((!((ofB x1).O r1)))) (!(!((ofB x0).Z r1))) rfl rfl (by generalize (!((ofB x0).Z r1)) = gg0; cases gg0 <;> rfl) (by intro hb; have hb235 := hid (show ((!((ofB x0).Z r1))) = false from nnb hb); intro x hx; (try simp only [hb]); (try simp only [cond_true]); go_simp; (first | done | exact rfl)) ?_
        simp only [sA, sB]
        refine lv 11 (.bool ((bif (!((ofB x0).Z r1)) then true else (!((ofB x1).O r1))))) rfl rfl (by intro x hx; (cases hq : ((!((ofB x0).Z r1))) <;> first | rfl | (simp only [hq]; rfl) | simp [hq])) ?_
        simp only [sA, sB]
        refine lm 12 51 rfl rfl rfl rfl ?_
        simp only [sA, sB]
        refine lin_if (i := 13) (v := .int .i64 1) (!(bif (!((ofB x0).Z r1)) then true else (!((ofB x1).O r1)))) rfl rfl (by generalize (bif (!((ofB x0).Z r1)) then true else (!((ofB x1).O r1))) = gg0; cases gg0 <;> rfl) (by intro hb; have hb236 := hid (show ((bif (!((ofB x0).Z r1)) then true else (!((ofB x1).O r1)))) = false from nnb hb); intro x hx; (try simp only [hb]); (try simp only [cond_true]); go_simp; (first | done | exact rfl)) ?_
        simp only [sA, sB]
        refine lin_if (i := 14) (v := .pointer (some ⟨k4, 1, none⟩)) (!(bif (!((ofB x0).Z r1)) then true else (!((ofB x1).O r1)))) rfl rfl (by generalize (bif (!((ofB x0).Z r1)) then true else (!((ofB x1).O r1))) = gg0; cases gg0 <;> rfl) (by intro hb; have hb237 := hid (show ((bif (!((ofB x0).Z r1)) then true else (!((ofB x1).O r1)))) = false from nnb hb); intro x hx; (try simp only [hb]); (try simp only [cond_true]); go_simp; (first | done | exact rfl)) ?_
        simp only [sA, sB]
        refine lin_if (i := 15) (v := .bool ((cars bor3 (ofB x0) (ofB x1) r1).2)) (!(bif (!((ofB x0).Z r1)) then true else (!((ofB x1).O r1)))) rfl rfl (by generalize (bif (!((ofB x0).Z r1)) then true else (!((ofB x1).O r1))) = gg0; cases gg0 <;> rfl) (by intro hb; have hb238 := hid (show ((bif (!((ofB x0).Z r1)) then true else (!((ofB x1).O r1)))) = false from nnb hb); intro x hx; (try simp only [hb]); (try simp only [cond_true]); have f0 := hx.load 6 1 rfl rfl; go_simp; (first | done | exact rfl)) ?_
        simp only [sA, sB]
        refine lin_if (i := 16) (v := .bool ((!((cars bor3 (ofB x0) (ofB x1) r1).2)))) (!(bif (!((ofB x0).Z r1)) then true else (!((ofB x1).O r1)))) rfl rfl (by generalize (bif (!((ofB x0).Z r1)) then true else (!((ofB x1).O r1))) = gg0; cases gg0 <;> rfl) (by intro hb; have hb239 := hid (show ((bif (!((ofB x0).Z r1)) then true else (!((ofB x1).O r1)))) = false from nnb hb); intro x hx; (try simp only [hb]); (try simp only [cond_true]); go_simp; (first | done | exact rfl)) ?_
        simp only [sA, sB]
        refine lv 17 (.bool ((bif (bif (!((ofB x0).Z r1)) then true else (!((ofB x1).O r1))) then true else (!((cars bor3 (ofB x0) (ofB x1) r1).2))))) rfl rfl (by intro x hx; (cases hq : ((bif (!((ofB x0).Z r1)) then true else (!((ofB x1).O r1)))) <;> first | rfl | (simp only [hq]; rfl) | simp [hq])) ?_
        simp only [sA, sB]
        clear HS
        refine ld fun W13 HS => ?_
        cases h1 : ((bif (bif (!((ofB x0).Z r1)) then true else (!((ofB x1).O r1))) then true else (!((cars bor3 (ofB x0) (ofB x1) r1).2))))
        ·replace h1 := hid h1
         go_upto_region 16 with fail
         refine lnb HS.out rfl ?_
         refine lm 0 14 rfl rfl rfl rfl ?_
         simp only [sA, sB]
         refine lm 1 15 rfl rfl rfl rfl ?_
         simp only [sA, sB]
         refine lv 2 (.int .i64 1) rfl rfl (by intro x hx; go_simp; (first | done | exact rfl)) ?_
         simp only [sA, sB]
         refine lm 3 16 rfl rfl rfl rfl ?_
         simp only [sA, sB]
         refine lv 4 (.int .i64 2) rfl rfl (by intro x hx; go_simp; (first | done | exact rfl)) ?_
         simp only [sA, sB]
         refine la 5 62 rfl rfl rfl rfl ?_
         simp only [sA, sB]
         clear HS
         refine ld fun W14 HS => ?_
         go_upto_region 17 with fail
         refine lnb HS.out rfl ?_
         refine lm 0 2 rfl rfl rfl rfl ?_
         simp only [sA, sB]
         clear HS
         refine ld fun W15 HS => ?_
         go_upto_region 18 with fail
         refine lnb HS.out rfl ?_
         refine lm 0 14 rfl rfl rfl rfl ?_
         simp only [sA, sB]
         refine lm 1 15 rfl rfl rfl rfl ?_
         simp only [sA, sB]
         refine lv 2 (.int .i64 (-1)) rfl rfl (by intro x hx; go_simp; (first | done | exact rfl)) ?_
         simp only [sA, sB]
         refine lm 3 16 rfl rfl rfl rfl ?_
         simp only [sA, sB]
         refine lv 4 (.int .i64 (-2)) rfl rfl (by intro x hx; go_simp; (first | done | exact rfl)) ?_
         simp only [sA, sB]
         refine lv 5 (.int .i64 2) rfl rfl (by intro x hx; go_simp; (first | done | exact rfl)) ?_
         simp only [sA, sB]
         refine la 6 69 rfl rfl rfl rfl ?_
         simp only [sA, sB]
         clear HS
         refine ld fun W16 HS => ?_
         go_upto_region 19 with fail
         refine lnb HS.out rfl ?_
         refine lm 0 17 rfl rfl rfl rfl ?_
         simp only [sA, sB]
         refine lv 1 (.int .i64 0) rfl rfl (by intro x hx; go_simp; (first | done | exact rfl)) ?_
         simp only [sA, sB]
         refine lv 2 (.bool false) rfl rfl (by intro x hx; go_simp; (first | done | exact rfl)) ?_
         simp only [sA, sB]
         clear HS
         refine ld fun W17 HS => ?_
         go_upto_region 21 with fail
         refine lnb HS.out rfl ?_
         refine lm 0 11 rfl rfl rfl rfl ?_
         simp only [sA, sB]
         refine lv 1 (.pointer (some ⟨k3, 0, none⟩)) rfl rfl (by intro x hx; go_simp; (first | done | exact rfl)) ?_
         simp only [sA, sB]
         refine lv 2 (.pointer (some ⟨k3, r1, none⟩)) rfl rfl (by intro x hx; go_simp; first | (rw [if_pos (by omega)]; done) | (rw [if_pos (by omega)]; rfl) | (intro hq; exfalso; omega) | (simp; omega)) ?_
         simp only [sA, sB]
         refine lin_store (i := 3) (St w [⟨w.heap.size, [some (.int .u64 (tn (x0.lo))), some (.int .u64 (tn (x0.hi)))], 24⟩, ⟨w.heap.size + 1, [some (.int .u64 (tn (x1.lo))), some (.int .u64 (tn (x1.hi)))], 24⟩, ⟨w.heap.size + 2, [some (.int .u64 0), some (.int .u64 0)], 24⟩, ⟨k1, ((fnV 128 (two 64 (ofB x0).Z (ofB x0).O)).map some), 48⟩, ⟨k2, ((fnV 128 (two 64 (ofB x1).Z (ofB x1).O)).map some), 48⟩, ⟨k3, ((fnV 128 (upd (two 64 (upd (upto r1 (sumB bor3 (ofB x0) (ofB x1)).Z) r1 (someTo (fun p q c => !odd3 p q c) (ofB x0) (ofB x1) (cars bor3 (ofB x0) (ofB x1) r1) r1 6)) (upd (upto r1 (sumB bor3 (ofB x0) (ofB x1)).O) r1 (someTo odd3 (ofB x0) (ofB x1) (cars bor3 (ofB x0) (ofB x1) r1) r1 6))) r1 true)).map some), 48⟩, ⟨k4, [some (.bool ((cars bor3 (ofB x0) (ofB x1) r1).1)), some (.bool ((cars bor3 (ofB x0) (ofB x1) r1).2))], 60⟩, ⟨k5, [some (.bool ((someTo (fun p q c => !bor3 p q c) (ofB x0) (ofB x1) (cars bor3 (ofB x0) (ofB x1) r1) r1 6))), some (.bool ((someTo bor3 (ofB x0) (ofB x1) (cars bor3 (ofB x0) (ofB x1) r1) r1 6)))], 60⟩]) rfl rfl (by rfl) (fun x => x.setCell ⟨k3, r1, none⟩ (.bool true)) (by intro x hx; have z0 := hx.fn 5 (r1) rfl (by omega); have q0 := hx.soft 5 (r1) rfl; go_simp; (first | done | rfl)) (fun x hx => hx.fnset 5 (r1) true rfl) ?_
         clear HS
         refine ld fun W18 HS => ?_
         go_upto_region 22 with fail
         refine lnb HS.out rfl ?_
         refine lm 0 17 rfl rfl rfl rfl ?_
         simp only [sA, sB]
         refine lv 1 (.bool true) rfl rfl (by intro x hx; go_simp; (first | done | exact rfl)) ?_
         simp only [sA, sB]
         refine la 2 80 rfl rfl rfl rfl ?_
         simp only [sA, sB]
         clear HS
         refine ld fun W19 HS => ?_
         go_upto_region 23 with fail
         refine lnb HS.out rfl ?_
         refine lm 0 2 rfl rfl rfl rfl ?_
         simp only [sA, sB]
         clear HS
         refine ld fun W20 HS => ?_
         go_upto_region 24 with fail
         refine lnb HS.out rfl ?_
         refine lm 0 17 rfl rfl rfl rfl ?_
         simp only [sA, sB]
         refine lv 1 (.bool true) rfl rfl (by intro x hx; go_simp; (first | done | exact rfl)) ?_
         simp only [sA, sB]
         refine la 2 83 rfl rfl rfl rfl ?_
         simp only [sA, sB]
         clear HS
         refine ld fun W21 HS => ?_
         go_upto_region 25 with fail
         refine lnb HS.out rfl ?_
         refine lm 0 18 rfl rfl rfl rfl ?_
         simp only [sA, sB]
         clear HS
         refine ld fun W22 HS => ?_
         go_upto_region 26 with fail
         refine lnb HS.out rfl ?_
         refine lv 0 (.pointer (some ⟨k5, 1, none⟩)) rfl rfl (by intro x hx; go_simp; (first | done | exact rfl)) ?_
         simp only [sA, sB]
         refine ls 1 7 1 [.bool true] rfl rfl rfl (by intro x hx; obtain ⟨_, z0, q0⟩ := hx.at1 7 1 rfl; go_simp; (first | done | rfl)) ?_
         simp only [Blk.putC, setM, sA, sB]
         clear HS
         refine ld fun W23 HS => ?_
         go_upto_region 11 with fail
         refine lnb HS.out rfl ?_
         refine lm 0 13 rfl rfl rfl rfl ?_
         simp only [sA, sB]
         refine lv 1 (.int .i64 7) rfl rfl (by intro x hx; go_simp; (first | done | exact rfl)) ?_
         simp only [sA, sB]
         refine la 2 32 rfl rfl rfl rfl ?_
         simp only [sA, sB]
         clear HS
         refine ld fun W24 HS => ?_
         go_wp2
         exact ⟨hlt2, hid ⟨_, _, _, _, _, _, _, _, _, _, _, _, _, _, _, _, _, _, _, _, _, _, _, _, _, _, _, _, _, _, _, _, _, _, _, _, _, _, _, _, _, _, _, _, _, _, _, _, _, _, _, _, _, _, _, _, _, _, _, _, _, _, _, rfl, (by have h := HS.out; rw [upd_lo (by omega), upd_upd] at h; rw [to_true (f := (fun p q c => !odd3 p q c)) (x := (ofB x0)) (y := (ofB x1)) (c := (cars bor3 (ofB x0) (ofB x1) r1)) (r := r1) (k := 6) ((turn_yes (f := (fun p q c => !odd3 p q c)) (p := false) (q := true) (c := true) h1.out).trans rfl), to_same (f := odd3) (x := (ofB x0)) (y := (ofB x1)) (c := (cars bor3 (ofB x0) (ofB x1) r1)) (r := r1) (k := 6) ((turn_yes (f := odd3) (p := false) (q := true) (c := true) h1.out).trans rfl), to_same (f := (fun p q c => !bor3 p q c)) (x := (ofB x0)) (y := (ofB x1)) (c := (cars bor3 (ofB x0) (ofB x1) r1)) (r := r1) (k := 6) ((turn_yes (f := (fun p q c => !bor3 p q c)) (p := false) (q := true) (c := true) h1.out).trans rfl), to_true (f := bor3) (x := (ofB x0)) (y := (ofB x1)) (c := (cars bor3 (ofB x0) (ofB x1) r1)) (r := r1) (k := 6) ((turn_yes (f := bor3) (p := false) (q := true) (c := true) h1.out).trans rfl)]; exact h)⟩⟩
        ·replace h1 := hid h1
         go_upto_region 11 with fail
         refine lnb HS.out rfl ?_
         refine lm 0 13 rfl rfl rfl rfl ?_
         simp only [sA, sB]
         refine lv 1 (.int .i64 7) rfl rfl (by intro x hx; go_simp; (first | done | exact rfl)) ?_
         simp only [sA, sB]
         refine la 2 32 rfl rfl rfl rfl ?_
         simp only [sA, sB]
         clear HS
         refine ld fun W14 HS => ?_
         go_wp2
         exact ⟨hlt2, hid ⟨_, _, _, _, _, _, _, _, _, _, _, _, _, _, _, _, _, _, _, _, _, _, _, _, _, _, _, _, _, _, _, _, _, _, _, _, _, _, _, _, _, _, _, _, _, _, _, _, _, _, _, _, _, _, _, _, _, _, _, _, _, _, _, rfl, (by rw [to_same (f := (fun p q c => !odd3 p q c)) (x := (ofB x0)) (y := (ofB x1)) (c := (cars bor3 (ofB x0) (ofB x1) r1)) (r := r1) (k := 6) (turn_no (f := (fun p q c => !odd3 p q c)) (p := false) (q := true) (c := true) h1.out), to_same (f := odd3) (x := (ofB x0)) (y := (ofB x1)) (c := (cars bor3 (ofB x0) (ofB x1) r1)) (r := r1) (k := 6) (turn_no (f := odd3) (p := false) (q := true) (c := true) h1.out), to_same (f := (fun p q c => !bor3 p q c)) (x := (ofB x0)) (y := (ofB x1)) (c := (cars bor3 (ofB x0) (ofB x1) r1)) (r := r1) (k := 6) (turn_no (f := (fun p q c => !bor3 p q c)) (p := false) (q := true) (c := true) h1.out), to_same (f := bor3) (x := (ofB x0)) (y := (ofB x1)) (c := (cars bor3 (ofB x0) (ofB x1) r1)) (r := r1) (k := 6) (turn_no (f := bor3) (p := false) (q := true) (c := true) h1.out)]; exact HS.out)⟩⟩
      · rw [show ((7 : Nat) : Int) = 7 from rfl]
        go_upto_region 10 with fail
        refine lnb HS.out rfl ?_
        refine lm 0 13 rfl rfl rfl rfl ?_
        simp only [sA, sB]
        refine lv 1 (.bool true) rfl rfl (by intro x hx; go_simp; (first | done | exact rfl)) ?_
        simp only [sA, sB]
        clear HS
        refine ld fun W9 HS => ?_
        go_upto_region 12 with fail
        refine lnb HS.out rfl ?_
        refine lm 0 13 rfl rfl rfl rfl ?_
        simp only [sA, sB]
        refine lv 1 (.int .i64 1) rfl rfl (by intro x hx; go_simp; (first | done | exact rfl)) ?_
        simp only [sA, sB]
        refine la 2 34 rfl rfl rfl rfl ?_
        simp only [sA, sB]
        clear HS
        refine ld fun W10 HS => ?_
        go_upto_region 13 with fail
        refine lnb HS.out rfl ?_
        refine lm 0 13 rfl rfl rfl rfl ?_
        simp only [sA, sB]
        refine lv 1 (.int .i64 3) rfl rfl (by intro x hx; go_simp; (first | done | exact rfl)) ?_
        simp only [sA, sB]
        refine lv 2 (.int .i64 1) rfl rfl (by intro x hx; go_simp; (first | done | exact rfl)) ?_
        simp only [sA, sB]
        refine la 3 37 rfl rfl rfl rfl ?_
        simp only [sA, sB]
        clear HS
        refine ld fun W11 HS => ?_
        go_upto_region 14 with fail
        refine lnb HS.out rfl ?_
        refine lm 0 13 rfl rfl rfl rfl ?_
        simp only [sA, sB]
        refine lv 1 (.int .i64 1) rfl rfl (by intro x hx; go_simp; (first | done | exact rfl)) ?_
        simp only [sA, sB]
        refine la 2 39 rfl rfl rfl rfl ?_
        simp only [sA, sB]
        clear HS
        refine ld fun W12 HS => ?_
        go_upto_region 15 with fail
        refine lnb HS.out rfl ?_
        refine lv 0 (.agg (fnV 128 (two 64 (ofB x0).Z (ofB x0).O)).toArray) rfl rfl (by intro x hx; exact loadF hx 3 rfl rfl rfl (fun w => by kernel_rfl) (fun w => by kernel_rfl)) ?_
        simp only [sA, sB]
        refine lm 1 11 rfl rfl rfl rfl ?_
        simp only [sA, sB]
        refine lm 2 14 rfl rfl rfl rfl ?_
        simp only [sA, sB]
        refine lc 3 51 #[.agg (fnV 128 (two 64 (ofB x0).Z (ofB x0).O)).toArray, .int .i64 ((r1 : Nat) : Int), .int .i64 1] (.bool ((ofB x0).O r1)) rfl rfl (by intro x hx; exact ref_may_1 (ofB x0) r1 (by omega) _) ?_
        simp only [sA, sB]
        refine lv 4 (.bool ((!((ofB x0).O r1)))) rfl rfl (by intro x hx; go_simp; (first | done | exact rfl)) ?_
        simp only [sA, sB]
        refine lm 5 44 rfl rfl rfl rfl ?_
        simp only [sA, sB]
        refine lin_if (i := 6) (v := .agg (fnV 128 (two 64 (ofB x1).Z (ofB x1).O)).toArray) (!(!((ofB x0).O r1))) rfl rfl (by generalize (!((ofB x0).O r1)) = gg0; cases gg0 <;> rfl) (by intro hb; have hb240 := hid (show ((!((ofB x0).O r1))) = false from nnb hb); intro x hx; (try simp only [hb]); (try simp only [cond_true]); exact loadF hx 4 rfl rfl rfl (fun w => by kernel_rfl) (fun w => by kernel_rfl)) ?_
        simp only [sA, sB]
        refine lin_if (i := 7) (v := .int .i64 ((r1 : Nat) : Int)) (!(!((ofB x0).O r1))) rfl rfl (by generalize (!((ofB x0).O r1)) = gg0; cases gg0 <;> rfl) (by intro hb; have hb241 := hid (show ((!((ofB x0).O r1))) = false from nnb hb); intro x hx; (try simp only [hb]); (try simp only [cond_true]); go_simp; (first | done | exact rfl)) ?_
        simp only [sA, sB]
        refine lin_if (i := 8) (v := .int .i64 1) (!(!((ofB x0).O r1))) rfl rfl (by generalize (!((ofB x0).O r1)) = gg0; cases gg0 <;> rfl) (by intro hb; have hb242 := hid (show ((!((ofB x0).O r1))) = false from nnb hb); intro x hx; (try simp only [hb]); (try simp only [cond_true]); go_simp; (first | done | exact rfl)) ?_
        simp only [sA, sB]
        refine lin_if_call (i := 9) (f := 51) (args := #[.agg (fnV 128 (two 64 (ofB x1).Z (ofB x1).O)).toArray, .int .i64 ((r1 : Nat) : Int), .int .i64 1]) (v := .bool ((ofB x1).O r1)) (!(!((ofB x0).O r1))) (st_ups _ _) rfl rfl (by generalize (!((ofB x0).O r1)) = gg0; cases gg0 <;> rfl) (by intro hb; have hb243 := hid (show ((!((ofB x0).O r1))) = false from nnb hb); intro x hx; (try simp only [hb]); (try simp only [cond_true]); kernel_rfl) (by intro hb; have hb243 := hid (show ((!((ofB x0).O r1))) = false from nnb hb); intro x hx; exact ref_may_1 (ofB x1) r1 (by omega) _) ?_
        simp only [sA, sB]
        refine lin_if (i := 10) (v := .bool ((!((ofB x1).O r1)))) (!(!((ofB x0).O r1))) rfl rfl (by generalize (!((ofB x0).O r1)) = gg0; cases gg0 <;> rfl) (by intro hb; have hb244 := hid (show ((!((ofB x0).O r1))) = false from nnb hb); intro x hx; (try simp only [hb]); (try simp only [cond_true]); go_simp; (first | done | exact rfl)) ?_
        simp only [sA, sB]
        refine lv 11 (.bool ((bif (!((ofB x0).O r1)) then true else (!((ofB x1).O r1))))) rfl rfl (by intro x hx; (cases hq : ((!((ofB x0).O r1))) <;> first | rfl | (simp only [hq]; rfl) | simp [hq])) ?_
        simp only [sA, sB]
        refine lm 12 51 rfl rfl rfl rfl ?_
        simp only [sA, sB]
        refine lin_if (i := 13) (v := .int .i64 1) (!(bif (!((ofB x0).O r1)) then true else (!((ofB x1).O r1)))) rfl rfl (by generalize (bif (!((ofB x0).O r1)) then true else (!((ofB x1).O r1))) = gg0; cases gg0 <;> rfl) (by intro hb; have hb245 := hid (show ((bif (!((ofB x0).O r1)) then true else (!((ofB x1).O r1)))) = false from nnb hb); intro x hx; (try simp only [hb]); (try simp only [cond_true]); go_simp; (first | done | exact rfl)) ?_
        simp only [sA, sB]
        refine lin_if (i := 14) (v := .pointer (some ⟨k4, 1, none⟩)) (!(bif (!((ofB x0).O r1)) then true else (!((ofB x1).O r1)))) rfl rfl (by generalize (bif (!((ofB x0).O r1)) then true else (!((ofB x1).O r1))) = gg0; cases gg0 <;> rfl) (by intro hb; have hb246 := hid (show ((bif (!((ofB x0).O r1)) then true else (!((ofB x1).O r1)))) = false from nnb hb); intro x hx; (try simp only [hb]); (try simp only [cond_true]); go_simp; (first | done | exact rfl)) ?_
        simp only [sA, sB]
        refine lin_if (i := 15) (v := .bool ((cars bor3 (ofB x0) (ofB x1) r1).2)) (!(bif (!((ofB x0).O r1)) then true else (!((ofB x1).O r1)))) rfl rfl (by generalize (bif (!((ofB x0).O r1)) then true else (!((ofB x1).O r1))) = gg0; cases gg0 <;> rfl) (by intro hb; have hb247 := hid (show ((bif (!((ofB x0).O r1)) then true else (!((ofB x1).O r1)))) = false from nnb hb); intro x hx; (try simp only [hb]); (try simp only [cond_true]); have f0 := hx.load 6 1 rfl rfl; go_simp; (first | done | exact rfl)) ?_
        simp only [sA, sB]
        refine lin_if (i := 16) (v := .bool ((!((cars bor3 (ofB x0) (ofB x1) r1).2)))) (!(bif (!((ofB x0).O r1)) then true else (!((ofB x1).O r1)))) rfl rfl (by generalize (bif (!((ofB x0).O r1)) then true else (!((ofB x1).O r1))) = gg0; cases gg0 <;> rfl) (by intro hb; have hb248 := hid (show ((bif (!((ofB x0).O r1)) then true else (!((ofB x1).O r1)))) = false from nnb hb); intro x hx; (try simp only [hb]); (try simp only [cond_true]); go_simp; (first | done | exact rfl)) ?_
        simp only [sA, sB]
        refine lv 17 (.bool ((bif (bif (!((ofB x0).O r1)) then true else (!((ofB x1).O r1))) then true else (!((cars bor3 (ofB x0) (ofB x1) r1).2))))) rfl rfl (by intro x hx; (cases hq : ((bif (!((ofB x0).O r1)) then true else (!((ofB x1).O r1)))) <;> first | rfl | (simp only [hq]; rfl) | simp [hq])) ?_
        simp only [sA, sB]
        clear HS
        refine ld fun W13 HS => ?_
        cases h1 : ((bif (bif (!((ofB x0).O r1)) then true else (!((ofB x1).O r1))) then true else (!((cars bor3 (ofB x0) (ofB x1) r1).2))))
        ·replace h1 := hid h1
         go_upto_region 16 with fail
         refine lnb HS.out rfl ?_
         refine lm 0 14 rfl rfl rfl rfl ?_
         simp only [sA, sB]
         refine lm 1 15 rfl rfl rfl rfl ?_
         simp only [sA, sB]
         refine lv 2 (.int .i64 2) rfl rfl (by intro x hx; go_simp; (first | done | exact rfl)) ?_
         simp only [sA, sB]
         refine lm 3 16 rfl rfl rfl rfl ?_
         simp only [sA, sB]
         refine lv 4 (.int .i64 3) rfl rfl (by intro x hx; go_simp; (first | done | exact rfl)) ?_
         simp only [sA, sB]
         refine la 5 62 rfl rfl rfl rfl ?_
         simp only [sA, sB]
         clear HS
         refine ld fun W14 HS => ?_
         go_upto_region 17 with fail
         refine lnb HS.out rfl ?_
         refine lm 0 2 rfl rfl rfl rfl ?_
         simp only [sA, sB]
         clear HS
         refine ld fun W15 HS => ?_
         go_upto_region 18 with fail
         refine lnb HS.out rfl ?_
         refine lm 0 14 rfl rfl rfl rfl ?_
         simp only [sA, sB]
         refine lm 1 15 rfl rfl rfl rfl ?_
         simp only [sA, sB]
         refine lv 2 (.int .i64 0) rfl rfl (by intro x hx; go_simp; (first | done | exact rfl)) ?_
         simp only [sA, sB]
         refine lm 3 16 rfl rfl rfl rfl ?_
         simp only [sA, sB]
         refine lv 4 (.int .i64 (-1)) rfl rfl (by intro x hx; go_simp; (first | done | exact rfl)) ?_
         simp only [sA, sB]
         refine lv 5 (.int .i64 3) rfl rfl (by intro x hx; go_simp; (first | done | exact rfl)) ?_
         simp only [sA, sB]
         refine la 6 69 rfl rfl rfl rfl ?_
         simp only [sA, sB]
         clear HS
         refine ld fun W16 HS => ?_
         go_upto_region 19 with fail
         refine lnb HS.out rfl ?_
         refine lm 0 17 rfl rfl rfl rfl ?_
         simp only [sA, sB]
         refine lv 1 (.int .i64 1) rfl rfl (by intro x hx; go_simp; (first | done | exact rfl)) ?_
         simp only [sA, sB]
         refine lv 2 (.bool true) rfl rfl (by intro x hx; go_simp; (first | done | exact rfl)) ?_
         simp only [sA, sB]
         clear HS
         refine ld fun W17 HS => ?_
         go_upto_region 20 with fail
         refine lnb HS.out rfl ?_
         refine lm 0 11 rfl rfl rfl rfl ?_
         simp only [sA, sB]
         refine lv 1 (.pointer (some ⟨k3, 64, none⟩)) rfl rfl (by intro x hx; go_simp; (first | done | exact rfl)) ?_
         simp only [sA, sB]
         refine lv 2 (.pointer (some ⟨k3, 64 + r1, none⟩)) rfl rfl (by intro x hx; go_simp; first | (rw [if_pos (by omega)]; done) | (rw [if_pos (by omega)]; rfl) | (intro hq; exfalso; omega) | (simp; omega)) ?_
         simp only [sA, sB]
         refine lin_store (i := 3) (St w [⟨w.heap.size, [some (.int .u64 (tn (x0.lo))), some (.int .u64 (tn (x0.hi)))], 24⟩, ⟨w.heap.size + 1, [some (.int .u64 (tn (x1.lo))), some (.int .u64 (tn (x1.hi)))], 24⟩, ⟨w.heap.size + 2, [some (.int .u64 0), some (.int .u64 0)], 24⟩, ⟨k1, ((fnV 128 (two 64 (ofB x0).Z (ofB x0).O)).map some), 48⟩, ⟨k2, ((fnV 128 (two 64 (ofB x1).Z (ofB x1).O)).map some), 48⟩, ⟨k3, ((fnV 128 (upd (two 64 (upd (upto r1 (sumB bor3 (ofB x0) (ofB x1)).Z) r1 (someTo (fun p q c => !odd3 p q c) (ofB x0) (ofB x1) (cars bor3 (ofB x0) (ofB x1) r1) r1 7)) (upd (upto r1 (sumB bor3 (ofB x0) (ofB x1)).O) r1 (someTo odd3 (ofB x0) (ofB x1) (cars bor3 (ofB x0) (ofB x1) r1) r1 7))) (64 + r1) true)).map some), 48⟩, ⟨k4, [some (.bool ((cars bor3 (ofB x0) (ofB x1) r1).1)), some (.bool ((cars bor3 (ofB x0) (ofB x1) r1).2))], 60⟩, ⟨k5, [some (.bool ((someTo (fun p q c => !bor3 p q c) (ofB x0) (ofB x1) (cars bor3 (ofB x0) (ofB x1) r1) r1 7))), some (.bool ((someTo bor3 (ofB x0) (ofB x1) (cars bor3 (ofB x0) (ofB x1) r1) r1 7)))], 60⟩]) rfl rfl (by rfl) (fun x => x.setCell ⟨k3, 64 + r1, none⟩ (.bool true)) (by intro x hx; have z0 := hx.fn 5 (64 + r1) rfl (by omega); have q0 := hx.soft 5 (64 + r1) rfl; go_simp; (first | done | rfl)) (fun x hx => hx.fnset 5 (64 + r1) true rfl) ?_
         clear HS
         refine ld fun W18 HS => ?_
         go_upto_region 22 with fail
         refine lnb HS.out rfl ?_
         refine lm 0 17 rfl rfl rfl rfl ?_
         simp only [sA, sB]
         refine lv 1 (.bool true) rfl rfl (by intro x hx; go_simp; (first | done | exact rfl)) ?_
         simp only [sA, sB]
         refine la 2 80 rfl rfl rfl rfl ?_
         simp only [sA, sB]
         clear HS
         refine ld fun W19 HS => ?_
         go_upto_region 23 with fail
         refine lnb HS.out rfl ?_
         refine lm 0 2 rfl rfl rfl rfl ?_
         simp only [sA, sB]
         clear HS
         refine ld fun W20 HS => ?_
         go_upto_region 24 with fail
         refine lnb HS.out rfl ?_
         refine lm 0 17 rfl rfl rfl rfl ?_
         simp only [sA, sB]
         refine lv 1 (.bool true) rfl rfl (by intro x hx; go_simp; (first | done | exact rfl)) ?_
         simp only [sA, sB]
         refine la 2 83 rfl rfl rfl rfl ?_
         simp only [sA, sB]
         clear HS
         refine ld fun W21 HS => ?_
         go_upto_region 25 with fail
         refine lnb HS.out rfl ?_
         refine lm 0 18 rfl rfl rfl rfl ?_
         simp only [sA, sB]
         clear HS
         refine ld fun W22 HS => ?_
         go_upto_region 26 with fail
         refine lnb HS.out rfl ?_
         refine lv 0 (.pointer (some ⟨k5, 1, none⟩)) rfl rfl (by intro x hx; go_simp; (first | done | exact rfl)) ?_
         simp only [sA, sB]
         refine ls 1 7 1 [.bool true] rfl rfl rfl (by intro x hx; obtain ⟨_, z0, q0⟩ := hx.at1 7 1 rfl; go_simp; (first | done | rfl)) ?_
         simp only [Blk.putC, setM, sA, sB]
         clear HS
         refine ld fun W23 HS => ?_
         go_upto_region 11 with fail
         refine lnb HS.out rfl ?_
         refine lm 0 13 rfl rfl rfl rfl ?_
         simp only [sA, sB]
         refine lv 1 (.int .i64 8) rfl rfl (by intro x hx; go_simp; (first | done | exact rfl)) ?_
         simp only [sA, sB]
         refine la 2 32 rfl rfl rfl rfl ?_
         simp only [sA, sB]
         clear HS
         refine ld fun W24 HS => ?_
         go_wp2
         exact ⟨hlt2, hid ⟨_, _, _, _, _, _, _, _, _, _, _, _, _, _, _, _, _, _, _, _, _, _, _, _, _, _, _, _, _, _, _, _, _, _, _, _, _, _, _, _, _, _, _, _, _, _, _, _, _, _, _, _, _, _, _, _, _, _, _, _, _, _, _, rfl, (by have h := HS.out; rw [upd_hi, upd_upd] at h; rw [to_same (f := (fun p q c => !odd3 p q c)) (x := (ofB x0)) (y := (ofB x1)) (c := (cars bor3 (ofB x0) (ofB x1) r1)) (r := r1) (k := 7) ((turn_yes (f := (fun p q c => !odd3 p q c)) (p := true) (q := true) (c := true) h1.out).trans rfl), to_true (f := odd3) (x := (ofB x0)) (y := (ofB x1)) (c := (cars bor3 (ofB x0) (ofB x1) r1)) (r := r1) (k := 7) ((turn_yes (f := odd3) (p := true) (q := true) (c := true) h1.out).trans rfl), to_same (f := (fun p q c => !bor3 p q c)) (x := (ofB x0)) (y := (ofB x1)) (c := (cars bor3 (ofB x0) (ofB x1) r1)) (r := r1) (k := 7) ((turn_yes (f := (fun p q c => !bor3 p q c)) (p := true) (q := true) (c := true) h1.out).trans rfl), to_true (f := bor3) (x := (ofB x0)) (y := (ofB x1)) (c := (cars bor3 (ofB x0) (ofB x1) r1)) (r := r1) (k := 7) ((turn_yes (f := bor3) (p := true) (q := true) (c := true) h1.out).trans rfl)]; exact h)⟩⟩
        ·replace h1 := hid h1
         go_upto_region 11 with fail
         refine lnb HS.out rfl ?_
         refine lm 0 13 rfl rfl rfl rfl ?_
         simp only [sA, sB]
         refine lv 1 (.int .i64 8) rfl rfl (by intro x hx; go_simp; (first | done | exact rfl)) ?_
         simp only [sA, sB]
         refine la 2 32 rfl rfl rfl rfl ?_
         simp only [sA, sB]
         clear HS
         refine ld fun W14 HS => ?_
         go_wp2
         exact ⟨hlt2, hid ⟨_, _, _, _, _, _, _, _, _, _, _, _, _, _, _, _, _, _, _, _, _, _, _, _, _, _, _, _, _, _, _, _, _, _, _, _, _, _, _, _, _, _, _, _, _, _, _, _, _, _, _, _, _, _, _, _, _, _, _, _, _, _, _, rfl, (by rw [to_same (f := (fun p q c => !odd3 p q c)) (x := (ofB x0)) (y := (ofB x1)) (c := (cars bor3 (ofB x0) (ofB x1) r1)) (r := r1) (k := 7) (turn_no (f := (fun p q c => !odd3 p q c)) (p := true) (q := true) (c := true) h1.out), to_same (f := odd3) (x := (ofB x0)) (y := (ofB x1)) (c := (cars bor3 (ofB x0) (ofB x1) r1)) (r := r1) (k := 7) (turn_no (f := odd3) (p := true) (q := true) (c := true) h1.out), to_same (f := (fun p q c => !bor3 p q c)) (x := (ofB x0)) (y := (ofB x1)) (c := (cars bor3 (ofB x0) (ofB x1) r1)) (r := r1) (k := 7) (turn_no (f := (fun p q c => !bor3 p q c)) (p := true) (q := true) (c := true) h1.out), to_same (f := bor3) (x := (ofB x0)) (y := (ofB x1)) (c := (cars bor3 (ofB x0) (ofB x1) r1)) (r := r1) (k := 7) (turn_no (f := bor3) (p := true) (q := true) (c := true) h1.out)]; exact HS.out)⟩⟩
    · have hN2 := hid (show r2 = 8 by omega)
      replace HS := hid (show St w [⟨w.heap.size, [some (.int .u64 (tn (x0.lo))), some (.int .u64 (tn (x0.hi)))], 24⟩, ⟨w.heap.size + 1, [some (.int .u64 (tn (x1.lo))), some (.int .u64 (tn (x1.hi)))], 24⟩, ⟨w.heap.size + 2, [some (.int .u64 0), some (.int .u64 0)], 24⟩, ⟨k1, ((fnV 128 (two 64 (ofB x0).Z (ofB x0).O)).map some), 48⟩, ⟨k2, ((fnV 128 (two 64 (ofB x1).Z (ofB x1).O)).map some), 48⟩, ⟨k3, ((fnV 128 (two 64 (upto (r1 + 1) (sumB bor3 (ofB x0) (ofB x1)).Z) (upto (r1 + 1) (sumB bor3 (ofB x0) (ofB x1)).O))).map some), 48⟩, ⟨k4, [some (.bool ((cars bor3 (ofB x0) (ofB x1) r1).1)), some (.bool ((cars bor3 (ofB x0) (ofB x1) r1).2))], 60⟩, ⟨k5, [some (.bool ((someTo (fun p q c => !bor3 p q c) (ofB x0) (ofB x1) (cars bor3 (ofB x0) (ofB x1) r1) r1 8))), some (.bool ((someTo bor3 (ofB x0) (ofB x1) (cars bor3 (ofB x0) (ofB x1) r1) r1 8)))], 60⟩] W from (by have h := HS.out; rw [hN2.out, upto_next (F := (sumB bor3 (ofB x0) (ofB x1)).Z) (show (someTo (fun p q c => !odd3 p q c) (ofB x0) (ofB x1) (cars bor3 (ofB x0) (ofB x1) r1) r1 8) = (sumB bor3 (ofB x0) (ofB x1)).Z r1 from rfl), upto_next (F := (sumB bor3 (ofB x0) (ofB x1)).O) (show (someTo odd3 (ofB x0) (ofB x1) (cars bor3 (ofB x0) (ofB x1) r1) r1 8) = (sumB bor3 (ofB x0) (ofB x1)).O r1 from rfl)] at h; exact h))
      go_upto_region 10 with fail
      refine lnb HS.out rfl ?_
      refine lm 0 13 rfl rfl rfl rfl ?_
      simp only [sA, sB]
      refine lv 1 (.bool false) rfl rfl (by intro x hx; go_simp; (first | done | omega | (simp; omega))) ?_
      simp only [sA, sB]
      clear HS
      refine ld fun W9 HS => ?_
      go_upto_region 28 with fail
      refine lnb HS.out rfl ?_
      refine lv 0 (.agg #[.bool ((someTo (fun p q c => !bor3 p q c) (ofB x0) (ofB x1) (cars bor3 (ofB x0) (ofB x1) r1) r1 8)), .bool ((someTo bor3 (ofB x0) (ofB x1) (cars bor3 (ofB x0) (ofB x1) r1) r1 8))]) rfl rfl (by intro x hx; obtain ⟨f0, f1⟩ := hx.two 7 0 rfl rfl; go_simp; (first | done | exact rfl)) ?_
      simp only [sA, sB]
      refine ls 1 6 0 [.bool ((someTo (fun p q c => !bor3 p q c) (ofB x0) (ofB x1) (cars bor3 (ofB x0) (ofB x1) r1) r1 8)), .bool ((someTo bor3 (ofB x0) (ofB x1) (cars bor3 (ofB x0) (ofB x1) r1) r1 8))] rfl rfl rfl (by intro x hx; obtain ⟨⟨_, z0, q0⟩, ⟨_, z1, q1⟩⟩ := hx.at2 6 0 rfl; go_simp; (first | done | rfl)) ?_
      simp only [Blk.putC, setM, sA, sB]
      clear HS
      refine ld fun W10 HS => ?_
      go_upto_region 7 with fail
      refine lnb HS.out rfl ?_
      refine lm 0 11 rfl rfl rfl rfl ?_
      simp only [sA, sB]
      refine lv 1 (.int .i64 ((r1 + 1 : Nat) : Int)) rfl rfl (by intro x hx; go_simp; (first | done | exact addN r1 1 (by omega) | exact congrArg _ (addN r1 1 (by omega)) | (rw [addN r1 1 (by omega)]; done) | (rw [addN r1 1 (by omega)]; rfl))) ?_
      simp only [sA, sB]
      refine la 2 27 rfl rfl rfl rfl ?_
      simp only [sA, sB]
      clear HS
      refine ld fun W11 HS => ?_
      go_wp2
      exact ⟨hlt1, hid ⟨_, _, _, _, _, _, _, _, _, _, _, _, _, _, _, _, _, _, _, _, _, _, _, _, _, _, _, _, _, _, _, _, _, _, _, _, _, _, _, _, _, _, _, _, _, _, _, _, _, _, _, _, _, _, _, _, _, _, _, _, _, _, _, _, _, _, _, _, _, _, _, rfl, (St.fewer (m := [_]) HS.out)⟩⟩
  · have hN1 := hid (show r1 = 64 by omega)
    replace HS := hid (show St w [⟨w.heap.size, [some (.int .u64 (tn (x0.lo))), some (.int .u64 (tn (x0.hi)))], 24⟩, ⟨w.heap.size + 1, [some (.int .u64 (tn (x1.lo))), some (.int .u64 (tn (x1.hi)))], 24⟩, ⟨w.heap.size + 2, [some (.int .u64 0), some (.int .u64 0)], 24⟩, ⟨k1, ((fnV 128 (two 64 (ofB x0).Z (ofB x0).O)).map some), 48⟩, ⟨k2, ((fnV 128 (two 64 (ofB x1).Z (ofB x1).O)).map some), 48⟩, ⟨k3, ((fnV 128 (two 64 (sumB bor3 (ofB x0) (ofB x1)).Z (sumB bor3 (ofB x0) (ofB x1)).O)).map some), 48⟩, ⟨k4, [some (.bool ((cars bor3 (ofB x0) (ofB x1) 64).1)), some (.bool ((cars bor3 (ofB x0) (ofB x1) 64).2))], 60⟩] W from (by have h := HS.out; rw [hN1.out, bits_all] at h; exact h))
    go_upto_region 6 with fail
    refine lnb HS.out rfl ?_
    refine lm 0 11 rfl rfl rfl rfl ?_
    simp only [sA, sB]
    refine lv 1 (.bool false) rfl rfl (by intro x hx; go_simp; (first | done | omega | (simp; omega))) ?_
    simp only [sA, sB]
    clear HS
    refine ld fun W6 HS => ?_
    go_upto_region 29 with fail
    refine lnb HS.out rfl ?_
    refine lv 0 (.agg (fnV 128 (two 64 (sumB bor3 (ofB x0) (ofB x1)).Z (sumB bor3 (ofB x0) (ofB x1)).O)).toArray) rfl rfl (by intro x hx; exact loadF hx 5 rfl rfl rfl (fun w => by kernel_rfl) (fun w => by kernel_rfl)) ?_
    simp only [sA, sB]
    refine lc 1 44 #[.agg (fnV 128 (two 64 (sumB bor3 (ofB x0) (ofB x1)).Z (sumB bor3 (ofB x0) (ofB x1)).O)).toArray] (vU (tnumB (sumB bor3 (ofB x0) (ofB x1)))) rfl rfl (by intro x hx; exact ref_Tnum_any (sumB bor3 (ofB x0) (ofB x1)) _) ?_
    simp only [sA, sB, vU]
    refine ls 2 2 0 (cU (tnumB (sumB bor3 (ofB x0) (ofB x1)))) rfl rfl rfl (by intro x hx; obtain ⟨⟨_, z0, q0⟩, ⟨_, z1, q1⟩⟩ := hx.at2 2 0 rfl; go_simp; (first | done | rfl)) ?_
    simp only [Blk.putC, setM, cU, sA, sB]
    clear HS
    refine ld fun W7 HS => ?_
    go_wp2
    obtain ⟨r0, r1⟩ := HS.out.two 2 0 rfl rfl
    exact bodyPost_ret (v := vU (tnumB (sumB bor3 (ofB x0) (ofB x1)))) (by simp [results, Tryd.results45, go_sem, r0, r1, vU]) rfl ⟨rfl, HS.out.below⟩
def refAdd (x0 : P) (x1 : P)  : P :=
  tnumB (sumB maj3 (ofB x0) (ofB x1))
set_option maxRecDepth 100000 in
set_option maxHeartbeats 1000000 in
theorem ref_Add_any (x0 : P) (x1 : P)   (w : World) :
    Calls Tryd.prog 21 #[vU x0, vU x1] w fun e w' => e = .returned (vU (refAdd x0 x1)) ∧ Below w.heap.size w w' := by
  simp only [vU]
  go_enter Tryd.func21, Tryd.ntmps21
  have HS : Hid (St w [⟨w.heap.size, [some (.int .u64 (tn (x0.lo))), some (.int .u64 (tn (x0.hi)))], 24⟩, ⟨w.heap.size + 1, [some (.int .u64 (tn (x1.lo))), some (.int .u64 (tn (x1.hi)))], 24⟩, ⟨w.heap.size + 2, [some (.int .u64 0), some (.int .u64 0)], 24⟩] _) := hid ((((st_nil w).alloc (k := w.heap.size) rfl [.int .u64 (tn (x0.lo)), .int .u64 (tn (x0.hi))] 24).alloc (k := w.heap.size + 1) (by simp) [.int .u64 (tn (x1.lo)), .int .u64 (tn (x1.hi))] 24).alloc (k := w.heap.size + 2) (by simp) [.int .u64 0, .int .u64 0] 24)
  go_upto_region 1 with fail
  refine lnb HS.out rfl ?_
  refine lv 0 (vU x0) rfl rfl (by intro x hx; obtain ⟨f0, f1⟩ := hx.two 0 0 rfl rfl; go_simp; (first | done | exact rfl)) ?_
  simp only [sA, sB, vU]
  refine lv 1 (vU x1) rfl rfl (by intro x hx; obtain ⟨f0, f1⟩ := hx.two 1 0 rfl rfl; go_simp; (first | done | exact rfl)) ?_
  simp only [sA, sB, vU]
  refine lc 2 45 #[vU x0, vU x1, .bool false] (vU (tnumB (sumB maj3 (ofB x0) (ofB x1)))) rfl rfl (by intro x hx; exact ref_carried_maj3 x0 x1 _) ?_
  simp only [sA, sB, vU]
  refine ls 3 2 0 (cU (tnumB (sumB maj3 (ofB x0) (ofB x1)))) rfl rfl rfl (by intro x hx; obtain ⟨⟨_, z0, q0⟩, ⟨_, z1, q1⟩⟩ := hx.at2 2 0 rfl; go_simp; (first | done | rfl)) ?_
  simp only [Blk.putC, setM, cU, sA, sB]
  clear HS
  refine ld fun W1 HS => ?_
  go_wp2
  obtain ⟨r0, r1⟩ := HS.out.two 2 0 rfl rfl
  have HF : refAdd x0 x1 = tnumB (sumB maj3 (ofB x0) (ofB x1)) := by
    unfold refAdd
    rfl
  exact bodyPost_ret (v := vU (tnumB (sumB maj3 (ofB x0) (ofB x1)))) (by simp [results, Tryd.results21, go_sem, r0, r1, vU]) rfl ⟨(by first | (rw [HF]; done) | (rw [HF]; rfl)), HS.out.below⟩
def refSub (x0 : P) (x1 : P)  : P :=
  tnumB (sumB bor3 (ofB x0) (ofB x1))
set_option maxRecDepth 100000 in
set_option maxHeartbeats 1000000 in
theorem ref_Sub_any (x0 : P) (x1 : P)   (w : World) :
    Calls Tryd.prog 22 #[vU x0, vU x1] w fun e w' => e = .returned (vU (refSub x0 x1)) ∧ Below w.heap.size w w' := by
  simp only [vU]
  go_enter Tryd.func22, Tryd.ntmps22
  have HS : Hid (St w [⟨w.heap.size, [some (.int .u64 (tn (x0.lo))), some (.int .u64 (tn (x0.hi)))], 24⟩, ⟨w.heap.size + 1, [some (.int .u64 (tn (x1.lo))), some (.int .u64 (tn (x1.hi)))], 24⟩, ⟨w.heap.size + 2, [some (.int .u64 0), some (.int .u64 0)], 24⟩] _) := hid ((((st_nil w).alloc (k := w.heap.size) rfl [.int .u64 (tn (x0.lo)), .int .u64 (tn (x0.hi))] 24).alloc (k := w.heap.size + 1) (by simp) [.int .u64 (tn (x1.lo)), .int .u64 (tn (x1.hi))] 24).alloc (k := w.heap.size + 2) (by simp) [.int .u64 0, .int .u64 0] 24)
  go_upto_region 1 with fail
  refine lnb HS.out rfl ?_
  refine lv 0 (vU x0) rfl rfl (by intro x hx; obtain ⟨f0, f1⟩ := hx.two 0 0 rfl rfl; go_simp; (first | done | exact rfl)) ?_
  simp only [sA, sB, vU]
  refine lv 1 (vU x1) rfl rfl (by intro x hx; obtain ⟨f0, f1⟩ := hx.two 1 0 rfl rfl; go_simp; (first | done | exact rfl)) ?_
  simp only [sA, sB, vU]
  refine lc 2 45 #[vU x0, vU x1, .bool true] (vU (tnumB (sumB bor3 (ofB x0) (ofB x1)))) rfl rfl (by intro x hx; exact ref_carried_bor3 x0 x1 _) ?_
  simp only [sA, sB, vU]
  refine ls 3 2 0 (cU (tnumB (sumB bor3 (ofB x0) (ofB x1)))) rfl rfl rfl (by intro x hx; obtain ⟨⟨_, z0, q0⟩, ⟨_, z1, q1⟩⟩ := hx.at2 2 0 rfl; go_simp; (first | done | rfl)) ?_
  simp only [Blk.putC, setM, cU, sA, sB]
  clear HS
  refine ld fun W1 HS => ?_
  go_wp2
  obtain ⟨r0, r1⟩ := HS.out.two 2 0 rfl rfl
  have HF : refSub x0 x1 = tnumB (sumB bor3 (ofB x0) (ofB x1)) := by
    unfold refSub
    rfl
  exact bodyPost_ret (v := vU (tnumB (sumB bor3 (ofB x0) (ofB x1)))) (by simp [results, Tryd.results22, go_sem, r0, r1, vU]) rfl ⟨(by first | (rw [HF]; done) | (rw [HF]; rfl)), HS.out.below⟩
end Go.Proofs.YtpbhfpogbndljaaDoor.Rt
