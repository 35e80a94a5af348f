/-
  The document's Meet and noughts.
-/
import Derived.Deep.DeepCutAuto
import Derived.Test.YtpbhfpogbndljaaDoorRtC
namespace Go.Proofs.YtpbhfpogbndljaaDoor.Rt
open Go.RowKit Go.Proofs.YtpbhfpogbndljaaDoor.Num Go.Proofs.YtpbhfpogbndljaaDoor.Up
def meetB (x y : BB) : BB := ⟨fun i => bif x.Z i then y.Z i else false, fun i => bif x.O i then y.O i else false⟩
def meetF (x y : BB) : Nat → Bool := fun i => !(bif !(bif x.Z i then y.Z i else false) then !(bif x.O i then y.O i else false) else false)
def refMeet (a b : P) : P × Bool := bif allTo (meetF (ofB a) (ofB b)) 64 then (tnumB (meetB (ofB a) (ofB b)), true) else (P.mk 0#64 0#64, false)
set_option maxRecDepth 100000 in
set_option maxHeartbeats 1000000 in
theorem ref_Meet_any (x0 : P) (x1 : P)   (w : World) :
    Calls Tryd.prog 29 #[vU x0, vU x1] w fun e w' => e = .returned (.tuple #[vU ((refMeet x0 x1).1), .bool ((refMeet x0 x1).2)]) ∧ Below w.heap.size w w' := by
  have hz48 := zero_48
  simp only [vU]
  go_enter Tryd.func29, Tryd.ntmps29
  have HS : Hid (St w [⟨w.heap.size, [some (.int .u64 (tn (x0.lo))), some (.int .u64 (tn (x0.hi)))], 24⟩, ⟨w.heap.size + 1, [some (.int .u64 (tn (x1.lo))), some (.int .u64 (tn (x1.hi)))], 24⟩, ⟨w.heap.size + 2, [some (.int .u64 0), some (.int .u64 0)], 24⟩] _) := hid ((((st_nil w).alloc (k := w.heap.size) rfl [.int .u64 (tn (x0.lo)), .int .u64 (tn (x0.hi))] 24).alloc (k := w.heap.size + 1) (by simp) [.int .u64 (tn (x1.lo)), .int .u64 (tn (x1.hi))] 24).alloc (k := w.heap.size + 2) (by simp) [.int .u64 0, .int .u64 0] 24)
  go_upto_region 1 with fail
  refine lnb HS.out rfl ?_
  refine lv 0 (vU x0) rfl rfl (by intro x hx; obtain ⟨f0, f1⟩ := hx.two 0 0 rfl rfl; go_simp; (first | done | exact rfl)) ?_
  simp only [sA, sB, vU]
  refine lc 1 43 #[vU x0] (.agg (fnV 128 (two 64 (ofB x0).Z (ofB x0).O)).toArray) rfl rfl (by intro x hx; exact ref_Of_any x0 _) ?_
  simp only [sA, sB]
  refine lin_new (i := 2) rfl rfl (by rfl) (fnV 128 (fun _ => false)) 48 (fun k => .pointer (some ⟨k, 0, none⟩)) ((fnV 128 (fun _ => false)).map some) (lessC_refl _) (by intro x hx; go_simp; (first | done | exact rfl)) (fun k1 => ?_)
  simp only [sA, sB, sC, sD]
  refine lin_store (i := 3) (St w [⟨w.heap.size, [some (.int .u64 (tn (x0.lo))), some (.int .u64 (tn (x0.hi)))], 24⟩, ⟨w.heap.size + 1, [some (.int .u64 (tn (x1.lo))), some (.int .u64 (tn (x1.hi)))], 24⟩, ⟨w.heap.size + 2, [some (.int .u64 0), some (.int .u64 0)], 24⟩, ⟨k1, ((fnV 128 (two 64 (ofB x0).Z (ofB x0).O)).map some), 48⟩]) rfl rfl (by rfl) (fun x => x.setCells k1 0 (fnV 128 (two 64 (ofB x0).Z (ofB x0).O))) (by intro x hx; exact storeF hx 3 rfl (by simp [fnV_len]) (fnV_one _ _) rfl rfl rfl (fun w => by rw [fnV_len]; kernel_rfl)) (fun x hx => hx.putF 3 _ rfl (by simp [fnV_len])) ?_
  clear HS
  refine ld fun W1 HS => ?_
  go_upto_region 2 with fail
  refine lnb HS.out rfl ?_
  refine lv 0 (vU x1) rfl rfl (by intro x hx; obtain ⟨f0, f1⟩ := hx.two 1 0 rfl rfl; go_simp; (first | done | exact rfl)) ?_
  simp only [sA, sB, vU]
  refine lc 1 43 #[vU x1] (.agg (fnV 128 (two 64 (ofB x1).Z (ofB x1).O)).toArray) rfl rfl (by intro x hx; exact ref_Of_any x1 _) ?_
  simp only [sA, sB]
  refine lin_new (i := 2) rfl rfl (by rfl) (fnV 128 (fun _ => false)) 48 (fun k => .pointer (some ⟨k, 0, none⟩)) ((fnV 128 (fun _ => false)).map some) (lessC_refl _) (by intro x hx; go_simp; (first | done | exact rfl)) (fun k2 => ?_)
  simp only [sA, sB, sC, sD]
  refine lin_store (i := 3) (St w [⟨w.heap.size, [some (.int .u64 (tn (x0.lo))), some (.int .u64 (tn (x0.hi)))], 24⟩, ⟨w.heap.size + 1, [some (.int .u64 (tn (x1.lo))), some (.int .u64 (tn (x1.hi)))], 24⟩, ⟨w.heap.size + 2, [some (.int .u64 0), some (.int .u64 0)], 24⟩, ⟨k1, ((fnV 128 (two 64 (ofB x0).Z (ofB x0).O)).map some), 48⟩, ⟨k2, ((fnV 128 (two 64 (ofB x1).Z (ofB x1).O)).map some), 48⟩]) rfl rfl (by rfl) (fun x => x.setCells k2 0 (fnV 128 (two 64 (ofB x1).Z (ofB x1).O))) (by intro x hx; exact storeF hx 4 rfl (by simp [fnV_len]) (fnV_one _ _) rfl rfl rfl (fun w => by rw [fnV_len]; kernel_rfl)) (fun x hx => hx.putF 4 _ rfl (by simp [fnV_len])) ?_
  clear HS
  refine ld fun W2 HS => ?_
  go_upto_region 3 with fail
  refine lnb HS.out rfl ?_
  refine lin_new (i := 0) rfl rfl (by rfl) (fnV 128 (fun _ => false)) 48 (fun k => .pointer (some ⟨k, 0, none⟩)) ((fnV 128 (fun _ => false)).map some) (lessC_refl _) (by intro x hx; go_simp; (first | done | exact rfl)) (fun k3 => ?_)
  simp only [sA, sB, sC, sD]
  clear HS
  refine ld fun W3 HS => ?_
  go_upto_region 4 with fail
  refine lnb HS.out rfl ?_
  refine lv 0 (.int .i64 0) rfl rfl (by intro x hx; go_simp; (first | done | exact rfl)) ?_
  simp only [sA, sB]
  clear HS
  refine ld fun W4 HS => ?_
  go_wp2
  refine loop_up 64 (fun k a W => Hid (∃ u1_5 u1_14 u1_15 u1_16 u1_17 u1_18 u1_19 u1_20 u1_21 u1_22 u1_23 u1_24 u1_25 u1_26 u1_27 u1_28 u1_29 u1_30 u1_31 u1_32 u1_33 u1_34 u1_35 u1_36 u1_37 u1_38 u1_39 u1_40 u1_41 u1_42 u1_43 u1_44 u1_45 u1_46 u1_47 u1_48 u1_49 u1_50 u1_51 u1_52 u1_53 u1_54 u1_55 u1_56 : Value, a = Act.mk [vU x0, vU x1, .pointer (some ⟨w.heap.size, 0, none⟩), .pointer (some ⟨w.heap.size + 1, 0, none⟩), .pointer (some ⟨w.heap.size + 2, 0, none⟩), u1_5, .pointer (some ⟨k1, 0, none⟩), .pointer (some ⟨k2, 0, none⟩), .pointer (some ⟨k3, 0, none⟩), .int .i64 ((k : Nat) : Int), vU x0, .agg (fnV 128 (two 64 (ofB x0).Z (ofB x0).O)).toArray, vU x1, .agg (fnV 128 (two 64 (ofB x1).Z (ofB x1).O)).toArray, u1_14, u1_15, u1_16, u1_17, u1_18, u1_19, u1_20, u1_21, u1_22, u1_23, u1_24, u1_25, u1_26, u1_27, u1_28, u1_29, u1_30, u1_31, u1_32, u1_33, u1_34, u1_35, u1_36, u1_37, u1_38, u1_39, u1_40, u1_41, u1_42, u1_43, u1_44, u1_45, u1_46, u1_47, u1_48, u1_49, u1_50, u1_51, u1_52, u1_53, u1_54, u1_55, u1_56, undef, undef].toArray [] ∧ St w [⟨w.heap.size, [some (.int .u64 (tn (x0.lo))), some (.int .u64 (tn (x0.hi)))], 24⟩, ⟨w.heap.size + 1, [some (.int .u64 (tn (x1.lo))), some (.int .u64 (tn (x1.hi)))], 24⟩, ⟨w.heap.size + 2, [some (.int .u64 0), some (.int .u64 0)], 24⟩, ⟨k1, ((fnV 128 (two 64 (ofB x0).Z (ofB x0).O)).map some), 48⟩, ⟨k2, ((fnV 128 (two 64 (ofB x1).Z (ofB x1).O)).map some), 48⟩, ⟨k3, ((fnV 128 (two 64 (upto k (meetB (ofB x0) (ofB x1)).Z) (upto k (meetB (ofB x0) (ofB x1)).O))).map some), 48⟩] W ∧ allTo (meetF (ofB x0) (ofB x1)) k = true)) (hid ⟨(.bool false), (undef), (undef), (undef), (undef), (undef), (undef), (undef), (undef), (undef), (undef), (undef), (undef), (undef), (undef), (undef), (undef), (undef), (undef), (undef), (undef), (undef), (undef), (undef), (undef), (undef), (undef), (undef), (undef), (undef), (undef), (undef), (undef), (undef), (undef), (undef), (undef), (undef), (undef), (undef), (undef), (undef), (undef), (undef), rfl, (by have h := HS.out; rw [← bits_none (meetB (ofB x0) (ofB x1)).Z (meetB (ofB x0) (ofB x1)).O] at h; exact h), rfl⟩) (fun r1 a W hr hR => ?_)
  obtain ⟨u1_5, u1_14, u1_15, u1_16, u1_17, u1_18, u1_19, u1_20, u1_21, u1_22, u1_23, u1_24, u1_25, u1_26, u1_27, u1_28, u1_29, u1_30, u1_31, u1_32, u1_33, u1_34, u1_35, u1_36, u1_37, u1_38, u1_39, u1_40, u1_41, u1_42, u1_43, u1_44, u1_45, u1_46, u1_47, u1_48, u1_49, u1_50, u1_51, u1_52, u1_53, u1_54, u1_55, u1_56, rfl, hS, hP⟩ := hR.out
  replace HS := hid hS
  have HP1 := hid hP
  clear hP
  clear hS hR
  by_cases hlt1 : r1 < 64
  · -- round
    go_upto_region 5 with fail
    refine lnb HS.out rfl ?_
    refine lm 0 9 rfl rfl rfl rfl ?_
    simp only [sA, sB]
    refine lv 1 (.bool true) rfl rfl (by intro x hx; go_simp; (first | done | omega | (simp; omega))) ?_
    simp only [sA, sB]
    clear HS
    refine ld fun W5 HS => ?_
    go_upto_region 7 with fail
    refine lnb HS.out rfl ?_
    refine lm 0 9 rfl rfl rfl rfl ?_
    simp only [sA, sB]
    refine lm 1 9 rfl rfl rfl rfl ?_
    simp only [sA, sB]
    refine lv 2 (.pointer (some ⟨k1, 0, none⟩)) rfl rfl (by intro x hx; go_simp; (first | done | exact rfl)) ?_
    simp only [sA, sB]
    refine lv 3 (.pointer (some ⟨k1, r1, none⟩)) rfl rfl (by intro x hx; go_simp; first | (rw [if_pos (by omega)]; done) | (rw [if_pos (by omega)]; rfl) | (intro hq; exfalso; omega) | (simp; omega)) ?_
    simp only [sA, sB]
    refine lv 4 (.bool ((ofB x0).Z r1)) rfl rfl (by intro x hx; have f0 := hx.fn 3 (r1) rfl (by omega); rw [two_lo (by omega)] at f0; go_simp; (first | done | exact rfl)) ?_
    simp only [sA, sB]
    refine lm 5 22 rfl rfl rfl rfl ?_
    simp only [sA, sB]
    refine lin_if (i := 6) (v := .int .i64 ((r1 : Nat) : Int)) ((ofB x0).Z r1) rfl rfl (by generalize ((ofB x0).Z r1) = gg0; cases gg0 <;> rfl) (by intro hb; have hb90 := hid (show ((ofB x0).Z r1) = true from hb); intro x hx; (try simp only [hb]); (try simp only [cond_true]); go_simp; (first | done | exact rfl)) ?_
    simp only [sA, sB]
    refine lin_if (i := 7) (v := .pointer (some ⟨k2, 0, none⟩)) ((ofB x0).Z r1) rfl rfl (by generalize ((ofB x0).Z r1) = gg0; cases gg0 <;> rfl) (by intro hb; have hb91 := hid (show ((ofB x0).Z r1) = true from hb); intro x hx; (try simp only [hb]); (try simp only [cond_true]); go_simp; (first | done | exact rfl)) ?_
    simp only [sA, sB]
    refine lin_if (i := 8) (v := .pointer (some ⟨k2, r1, none⟩)) ((ofB x0).Z r1) rfl rfl (by generalize ((ofB x0).Z r1) = gg0; cases gg0 <;> rfl) (by intro hb; have hb92 := hid (show ((ofB x0).Z r1) = true from hb); intro x hx; (try simp only [hb]); (try simp only [cond_true]); go_simp; first | (rw [if_pos (by omega)]; done) | (rw [if_pos (by omega)]; rfl) | (intro hq; exfalso; omega) | (simp; omega)) ?_
    simp only [sA, sB]
    refine lin_if (i := 9) (v := .bool ((ofB x1).Z r1)) ((ofB x0).Z r1) rfl rfl (by generalize ((ofB x0).Z r1) = gg0; cases gg0 <;> rfl) (by intro hb; have hb93 := hid (show ((ofB x0).Z r1) = true from hb); intro x hx; (try simp only [hb]); (try simp only [cond_true]); have f0 := hx.fn 4 (r1) rfl (by omega); rw [two_lo (by omega)] at f0; go_simp; (first | done | exact rfl)) ?_
    simp only [sA, sB]
    refine lv 10 (.bool ((bif (ofB x0).Z r1 then (ofB x1).Z r1 else false))) rfl rfl (by intro x hx; (cases hq : ((ofB x0).Z r1) <;> first | rfl | (simp only [hq]; rfl) | simp [hq])) ?_
    simp only [sA, sB]
    refine lv 11 (.pointer (some ⟨k3, 0, none⟩)) rfl rfl (by intro x hx; go_simp; (first | done | exact rfl)) ?_
    simp only [sA, sB]
    refine lv 12 (.pointer (some ⟨k3, r1, none⟩)) rfl rfl (by intro x hx; go_simp; first | (rw [if_pos (by omega)]; done) | (rw [if_pos (by omega)]; rfl) | (intro hq; exfalso; omega) | (simp; omega)) ?_
    simp only [sA, sB]
    refine lin_store (i := 13) (St w [⟨w.heap.size, [some (.int .u64 (tn (x0.lo))), some (.int .u64 (tn (x0.hi)))], 24⟩, ⟨w.heap.size + 1, [some (.int .u64 (tn (x1.lo))), some (.int .u64 (tn (x1.hi)))], 24⟩, ⟨w.heap.size + 2, [some (.int .u64 0), some (.int .u64 0)], 24⟩, ⟨k1, ((fnV 128 (two 64 (ofB x0).Z (ofB x0).O)).map some), 48⟩, ⟨k2, ((fnV 128 (two 64 (ofB x1).Z (ofB x1).O)).map some), 48⟩, ⟨k3, ((fnV 128 (upd (two 64 (upto r1 (meetB (ofB x0) (ofB x1)).Z) (upto r1 (meetB (ofB x0) (ofB x1)).O)) r1 (bif (ofB x0).Z r1 then (ofB x1).Z r1 else false))).map some), 48⟩]) rfl rfl (by rfl) (fun x => x.setCell ⟨k3, r1, none⟩ (.bool (bif (ofB x0).Z r1 then (ofB x1).Z r1 else false))) (by intro x hx; have z0 := hx.fn 5 (r1) rfl (by omega); have q0 := hx.soft 5 (r1) rfl; go_simp; (first | done | rfl)) (fun x hx => hx.fnset 5 (r1) (bif (ofB x0).Z r1 then (ofB x1).Z r1 else false) rfl) ?_
    clear HS
    refine ld fun W6 HS => ?_
    go_upto_region 8 with fail
    refine lnb HS.out rfl ?_
    refine lm 0 9 rfl rfl rfl rfl ?_
    simp only [sA, sB]
    refine lm 1 9 rfl rfl rfl rfl ?_
    simp only [sA, sB]
    refine lv 2 (.pointer (some ⟨k1, 64, none⟩)) rfl rfl (by intro x hx; go_simp; (first | done | exact rfl)) ?_
    simp only [sA, sB]
    refine lv 3 (.pointer (some ⟨k1, 64 + r1, none⟩)) rfl rfl (by intro x hx; go_simp; first | (rw [if_pos (by omega)]; done) | (rw [if_pos (by omega)]; rfl) | (intro hq; exfalso; omega) | (simp; omega)) ?_
    simp only [sA, sB]
    refine lv 4 (.bool ((ofB x0).O r1)) rfl rfl (by intro x hx; have f0 := hx.fn 3 (64 + r1) rfl (by omega); rw [two_hi] at f0; go_simp; (first | done | exact rfl)) ?_
    simp only [sA, sB]
    refine lm 5 35 rfl rfl rfl rfl ?_
    simp only [sA, sB]
    refine lin_if (i := 6) (v := .int .i64 ((r1 : Nat) : Int)) ((ofB x0).O r1) rfl rfl (by generalize ((ofB x0).O r1) = gg0; cases gg0 <;> rfl) (by intro hb; have hb94 := hid (show ((ofB x0).O r1) = true from hb); intro x hx; (try simp only [hb]); (try simp only [cond_true]); go_simp; (first | done | exact rfl)) ?_
    simp only [sA, sB]
    refine lin_if (i := 7) (v := .pointer (some ⟨k2, 64, none⟩)) ((ofB x0).O r1) rfl rfl (by generalize ((ofB x0).O r1) = gg0; cases gg0 <;> rfl) (by intro hb; have hb95 := hid (show ((ofB x0).O r1) = true from hb); intro x hx; (try simp only [hb]); (try simp only [cond_true]); go_simp; (first | done | exact rfl)) ?_
    simp only [sA, sB]
    refine lin_if (i := 8) (v := .pointer (some ⟨k2, 64 + r1, none⟩)) ((ofB x0).O r1) rfl rfl (by generalize ((ofB x0).O r1) = gg0; cases gg0 <;> rfl) (by intro hb; have hb96 := hid (show ((ofB x0).O r1) = true from hb); intro x hx; (try simp only [hb]); (try simp only [cond_true]); go_simp; first | (rw [if_pos (by omega)]; done) | (rw [if_pos (by omega)]; rfl) | (intro hq; exfalso; omega) | (simp; omega)) ?_
    simp only [sA, sB]
    refine lin_if (i := 9) (v := .bool ((ofB x1).O r1)) ((ofB x0).O r1) rfl rfl (by generalize ((ofB x0).O r1) = gg0; cases gg0 <;> rfl) (by intro hb; have hb97 := hid (show ((ofB x0).O r1) = true from hb); intro x hx; (try simp only [hb]); (try simp only [cond_true]); have f0 := hx.fn 4 (64 + r1) rfl (by omega); rw [two_hi] at f0; go_simp; (first | done | exact rfl)) ?_
    simp only [sA, sB]
    refine lv 10 (.bool ((bif (ofB x0).O r1 then (ofB x1).O r1 else false))) rfl rfl (by intro x hx; (cases hq : ((ofB x0).O r1) <;> first | rfl | (simp only [hq]; rfl) | simp [hq])) ?_
    simp only [sA, sB]
    refine lv 11 (.pointer (some ⟨k3, 64, none⟩)) rfl rfl (by intro x hx; go_simp; (first | done | exact rfl)) ?_
    simp only [sA, sB]
    refine lv 12 (.pointer (some ⟨k3, 64 + r1, none⟩)) rfl rfl (by intro x hx; go_simp; first | (rw [if_pos (by omega)]; done) | (rw [if_pos (by omega)]; rfl) | (intro hq; exfalso; omega) | (simp; omega)) ?_
    simp only [sA, sB]
    refine lin_store (i := 13) (St w [⟨w.heap.size, [some (.int .u64 (tn (x0.lo))), some (.int .u64 (tn (x0.hi)))], 24⟩, ⟨w.heap.size + 1, [some (.int .u64 (tn (x1.lo))), some (.int .u64 (tn (x1.hi)))], 24⟩, ⟨w.heap.size + 2, [some (.int .u64 0), some (.int .u64 0)], 24⟩, ⟨k1, ((fnV 128 (two 64 (ofB x0).Z (ofB x0).O)).map some), 48⟩, ⟨k2, ((fnV 128 (two 64 (ofB x1).Z (ofB x1).O)).map some), 48⟩, ⟨k3, ((fnV 128 (upd (upd (two 64 (upto r1 (meetB (ofB x0) (ofB x1)).Z) (upto r1 (meetB (ofB x0) (ofB x1)).O)) r1 (bif (ofB x0).Z r1 then (ofB x1).Z r1 else false)) (64 + r1) (bif (ofB x0).O r1 then (ofB x1).O r1 else false))).map some), 48⟩]) rfl rfl (by rfl) (fun x => x.setCell ⟨k3, 64 + r1, none⟩ (.bool (bif (ofB x0).O r1 then (ofB x1).O r1 else false))) (by intro x hx; have z0 := hx.fn 5 (64 + r1) rfl (by omega); have q0 := hx.soft 5 (64 + r1) rfl; go_simp; (first | done | rfl)) (fun x hx => hx.fnset 5 (64 + r1) (bif (ofB x0).O r1 then (ofB x1).O r1 else false) rfl) ?_
    clear HS
    refine ld fun W7 HS => ?_
    go_upto_region 9 with fail
    refine lnb HS.out rfl ?_
    refine lm 0 9 rfl rfl rfl rfl ?_
    simp only [sA, sB]
    refine lv 1 (.pointer (some ⟨k3, 0, none⟩)) rfl rfl (by intro x hx; go_simp; (first | done | exact rfl)) ?_
    simp only [sA, sB]
    refine lv 2 (.pointer (some ⟨k3, r1, none⟩)) rfl rfl (by intro x hx; go_simp; first | (rw [if_pos (by omega)]; done) | (rw [if_pos (by omega)]; rfl) | (intro hq; exfalso; omega) | (simp; omega)) ?_
    simp only [sA, sB]
    refine lv 3 (.bool (bif (ofB x0).Z r1 then (ofB x1).Z r1 else false)) rfl rfl (by intro x hx; have f0 := hx.fn 5 (r1) rfl (by omega); rw [upd_ne (by omega), upd_same] at f0; go_simp; (first | done | exact rfl)) ?_
    simp only [sA, sB]
    refine lv 4 (.bool ((!(bif (ofB x0).Z r1 then (ofB x1).Z r1 else false)))) rfl rfl (by intro x hx; go_simp; (first | done | exact rfl)) ?_
    simp only [sA, sB]
    refine lm 5 48 rfl rfl rfl rfl ?_
    simp only [sA, sB]
    refine lin_if (i := 6) (v := .int .i64 ((r1 : Nat) : Int)) (!(bif (ofB x0).Z r1 then (ofB x1).Z r1 else false)) rfl rfl (by generalize (!(bif (ofB x0).Z r1 then (ofB x1).Z r1 else false)) = gg0; cases gg0 <;> rfl) (by intro hb; have hb98 := hid (show ((!(bif (ofB x0).Z r1 then (ofB x1).Z r1 else false))) = true from hb); intro x hx; (try simp only [hb]); (try simp only [cond_true]); go_simp; (first | done | exact rfl)) ?_
    simp only [sA, sB]
    refine lin_if (i := 7) (v := .pointer (some ⟨k3, 64, none⟩)) (!(bif (ofB x0).Z r1 then (ofB x1).Z r1 else false)) rfl rfl (by generalize (!(bif (ofB x0).Z r1 then (ofB x1).Z r1 else false)) = gg0; cases gg0 <;> rfl) (by intro hb; have hb99 := hid (show ((!(bif (ofB x0).Z r1 then (ofB x1).Z r1 else false))) = true from hb); intro x hx; (try simp only [hb]); (try simp only [cond_true]); go_simp; (first | done | exact rfl)) ?_
    simp only [sA, sB]
    refine lin_if (i := 8) (v := .pointer (some ⟨k3, 64 + r1, none⟩)) (!(bif (ofB x0).Z r1 then (ofB x1).Z r1 else false)) rfl rfl (by generalize (!(bif (ofB x0).Z r1 then (ofB x1).Z r1 else false)) = gg0; cases gg0 <;> rfl) (by intro hb; have hb100 := hid (show ((!(bif (ofB x0).Z r1 then (ofB x1).Z r1 else false))) = true from hb); intro x hx; (try simp only [hb]); (try simp only [cond_true]); go_simp; first | (rw [if_pos (by omega)]; done) | (rw [if_pos (by omega)]; rfl) | (intro hq; exfalso; omega) | (simp; omega)) ?_
    simp only [sA, sB]
    refine lin_if (i := 9) (v := .bool (bif (ofB x0).O r1 then (ofB x1).O r1 else false)) (!(bif (ofB x0).Z r1 then (ofB x1).Z r1 else false)) rfl rfl (by generalize (!(bif (ofB x0).Z r1 then (ofB x1).Z r1 else false)) = gg0; cases gg0 <;> rfl) (by intro hb; have hb101 := hid (show ((!(bif (ofB x0).Z r1 then (ofB x1).Z r1 else false))) = true from hb); intro x hx; (try simp only [hb]); (try simp only [cond_true]); have f0 := hx.fn 5 (64 + r1) rfl (by omega); rw [upd_same] at f0; go_simp; (first | done | exact rfl)) ?_
    simp only [sA, sB]
    refine lin_if (i := 10) (v := .bool ((!(bif (ofB x0).O r1 then (ofB x1).O r1 else false)))) (!(bif (ofB x0).Z r1 then (ofB x1).Z r1 else false)) rfl rfl (by generalize (!(bif (ofB x0).Z r1 then (ofB x1).Z r1 else false)) = gg0; cases gg0 <;> rfl) (by intro hb; have hb102 := hid (show ((!(bif (ofB x0).Z r1 then (ofB x1).Z r1 else false))) = true from hb); intro x hx; (try simp only [hb]); (try simp only [cond_true]); go_simp; (first | done | exact rfl)) ?_
    simp only [sA, sB]
    refine lv 11 (.bool ((bif (!(bif (ofB x0).Z r1 then (ofB x1).Z r1 else false)) then (!(bif (ofB x0).O r1 then (ofB x1).O r1 else false)) else false))) rfl rfl (by intro x hx; (cases hq : ((!(bif (ofB x0).Z r1 then (ofB x1).Z r1 else false))) <;> first | rfl | (simp only [hq]; rfl) | simp [hq])) ?_
    simp only [sA, sB]
    clear HS
    refine ld fun W8 HS => ?_
    cases h1 : ((bif (!(bif (ofB x0).Z r1 then (ofB x1).Z r1 else false)) then (!(bif (ofB x0).O r1 then (ofB x1).O r1 else false)) else false))
    ·replace h1 := hid h1
     go_upto_region 6 with fail
     refine lnb HS.out rfl ?_
     refine lm 0 9 rfl rfl rfl rfl ?_
     simp only [sA, sB]
     refine lv 1 (.int .i64 ((r1 + 1 : Nat) : Int)) rfl rfl (by intro x hx; go_simp; (first | done | exact addN r1 1 (by omega) | exact congrArg _ (addN r1 1 (by omega)) | (rw [addN r1 1 (by omega)]; done) | (rw [addN r1 1 (by omega)]; rfl))) ?_
     simp only [sA, sB]
     refine la 2 17 rfl rfl rfl rfl ?_
     simp only [sA, sB]
     clear HS
     refine ld fun W9 HS => ?_
     go_wp2
     exact ⟨hlt1, hid ⟨_, _, _, _, _, _, _, _, _, _, _, _, _, _, _, _, _, _, _, _, _, _, _, _, _, _, _, _, _, _, _, _, _, _, _, _, _, _, _, _, _, _, _, _, rfl, (by have h := HS.out; rw [upd_lo (by omega), upd_hi, upto_next (by rfl), upto_next (by rfl)] at h; exact h), all_next HP1.out (nt h1.out)⟩⟩
    ·replace h1 := hid h1
     go_upto_region 10 with fail
     refine lnb HS.out rfl ?_
     refine lv 0 (.agg #[.int .u64 0, .int .u64 0]) rfl rfl (by intro x hx; go_simp; (first | done | exact rfl)) ?_
     simp only [sA, sB]
     refine ls 1 2 0 [.int .u64 0, .int .u64 0] rfl rfl rfl (by intro x hx; obtain ⟨⟨_, z0, q0⟩, ⟨_, z1, q1⟩⟩ := hx.at2 2 0 rfl; go_simp; (first | done | rfl)) ?_
     simp only [Blk.putC, setM, sA, sB]
     refine lv 2 (.bool false) rfl rfl (by intro x hx; go_simp; (first | done | exact rfl)) ?_
     simp only [sA, sB]
     clear HS
     refine ld fun W9 HS => ?_
     go_wp2
     obtain ⟨r0, r1⟩ := HS.out.two 2 0 rfl rfl
     exact bodyPost_ret (v := .tuple #[.agg #[.int .u64 0, .int .u64 0], .bool false]) (by simp [results, Tryd.results29, go_sem, r0, r1]) rfl ⟨(by rw [show refMeet x0 x1 = (P.mk 0#64 0#64, false) from cond_f (allTo_not hlt1 (nf h1.out))]; rfl), HS.out.below⟩
  · have hN1 := hid (show r1 = 64 by omega)
    replace HS := hid (show St w [⟨w.heap.size, [some (.int .u64 (tn (x0.lo))), some (.int .u64 (tn (x0.hi)))], 24⟩, ⟨w.heap.size + 1, [some (.int .u64 (tn (x1.lo))), some (.int .u64 (tn (x1.hi)))], 24⟩, ⟨w.heap.size + 2, [some (.int .u64 0), some (.int .u64 0)], 24⟩, ⟨k1, ((fnV 128 (two 64 (ofB x0).Z (ofB x0).O)).map some), 48⟩, ⟨k2, ((fnV 128 (two 64 (ofB x1).Z (ofB x1).O)).map some), 48⟩, ⟨k3, ((fnV 128 (two 64 (meetB (ofB x0) (ofB x1)).Z (meetB (ofB x0) (ofB x1)).O)).map some), 48⟩] W from (by have h := HS.out; rw [hN1.out, bits_all] at h; exact h))
    go_upto_region 5 with fail
    refine lnb HS.out rfl ?_
    refine lm 0 9 rfl rfl rfl rfl ?_
    simp only [sA, sB]
    refine lv 1 (.bool false) rfl rfl (by intro x hx; go_simp; (first | done | omega | (simp; omega))) ?_
    simp only [sA, sB]
    clear HS
    refine ld fun W5 HS => ?_
    go_upto_region 11 with fail
    refine lnb HS.out rfl ?_
    refine lv 0 (.agg (fnV 128 (two 64 (meetB (ofB x0) (ofB x1)).Z (meetB (ofB x0) (ofB x1)).O)).toArray) rfl rfl (by intro x hx; exact loadF hx 5 rfl rfl rfl (fun w => by kernel_rfl) (fun w => by kernel_rfl)) ?_
    simp only [sA, sB]
    refine lc 1 44 #[.agg (fnV 128 (two 64 (meetB (ofB x0) (ofB x1)).Z (meetB (ofB x0) (ofB x1)).O)).toArray] (vU (tnumB (meetB (ofB x0) (ofB x1)))) rfl rfl (by intro x hx; exact ref_Tnum_any (meetB (ofB x0) (ofB x1)) _) ?_
    simp only [sA, sB, vU]
    refine ls 2 2 0 (cU (tnumB (meetB (ofB x0) (ofB x1)))) rfl rfl rfl (by intro x hx; obtain ⟨⟨_, z0, q0⟩, ⟨_, z1, q1⟩⟩ := hx.at2 2 0 rfl; go_simp; (first | done | rfl)) ?_
    simp only [Blk.putC, setM, cU, sA, sB]
    refine lv 3 (.bool true) rfl rfl (by intro x hx; go_simp; (first | done | exact rfl)) ?_
    simp only [sA, sB]
    clear HS
    refine ld fun W6 HS => ?_
    go_wp2
    obtain ⟨r0, r1⟩ := HS.out.two 2 0 rfl rfl
    exact bodyPost_ret (v := .tuple #[vU (tnumB (meetB (ofB x0) (ofB x1))), .bool true]) (by simp [results, Tryd.results29, go_sem, r0, r1, vU]) rfl ⟨(by rw [show refMeet x0 x1 = (tnumB (meetB (ofB x0) (ofB x1)), true) from cond_t (by rw [← hN1.out]; exact HP1.out)]; rfl), HS.out.below⟩
def noO (a : P) : Nat → Bool := fun i => !(ofB a).O i
def nou (a : P) : Nat := runs (noO a) 64
theorem nou_le (a : P) : nou a ≤ 64 := runs_le _ _
theorem ret_nat {a b : Nat} (h : a = b) : Ending.returned (.int .i64 ((a : Nat) : Int)) = Ending.returned (.int .i64 ((b : Nat) : Int)) := by rw [h]
set_option maxRecDepth 100000 in
set_option maxHeartbeats 1000000 in
theorem ref_noughts_any (x0 : P)   (w : World) :
    Calls Tryd.prog 47 #[vU x0] w fun e w' => e = .returned (.int .i64 ((nou x0 : Nat) : Int)) ∧ Below w.heap.size w w' := by
  have hz48 := zero_48
  simp only [vU]
  go_enter Tryd.func47, Tryd.ntmps47
  have HS : Hid (St w [⟨w.heap.size, [some (.int .u64 (tn (x0.lo))), some (.int .u64 (tn (x0.hi)))], 24⟩] _) := hid ((st_nil w).alloc (k := w.heap.size) rfl [.int .u64 (tn (x0.lo)), .int .u64 (tn (x0.hi))] 24)
  go_upto_region 1 with fail
  refine lnb HS.out rfl ?_
  refine lv 0 (vU x0) rfl rfl (by intro x hx; obtain ⟨f0, f1⟩ := hx.two 0 0 rfl rfl; go_simp; (first | done | exact rfl)) ?_
  simp only [sA, sB, vU]
  refine lc 1 43 #[vU x0] (.agg (fnV 128 (two 64 (ofB x0).Z (ofB x0).O)).toArray) rfl rfl (by intro x hx; exact ref_Of_any x0 _) ?_
  simp only [sA, sB]
  refine lin_new (i := 2) rfl rfl (by rfl) (fnV 128 (fun _ => false)) 48 (fun k => .pointer (some ⟨k, 0, none⟩)) ((fnV 128 (fun _ => false)).map some) (lessC_refl _) (by intro x hx; go_simp; (first | done | exact rfl)) (fun k1 => ?_)
  simp only [sA, sB, sC, sD]
  refine lin_store (i := 3) (St w [⟨w.heap.size, [some (.int .u64 (tn (x0.lo))), some (.int .u64 (tn (x0.hi)))], 24⟩, ⟨k1, ((fnV 128 (two 64 (ofB x0).Z (ofB x0).O)).map some), 48⟩]) rfl rfl (by rfl) (fun x => x.setCells k1 0 (fnV 128 (two 64 (ofB x0).Z (ofB x0).O))) (by intro x hx; exact storeF hx 1 rfl (by simp [fnV_len]) (fnV_one _ _) rfl rfl rfl (fun w => by rw [fnV_len]; kernel_rfl)) (fun x hx => hx.putF 1 _ rfl (by simp [fnV_len])) ?_
  clear HS
  refine ld fun W1 HS => ?_
  go_upto_region 2 with fail
  refine lnb HS.out rfl ?_
  refine lv 0 (.int .i64 0) rfl rfl (by intro x hx; go_simp; (first | done | exact rfl)) ?_
  simp only [sA, sB]
  clear HS
  refine ld fun W2 HS => ?_
  go_wp2
  refine loop_up 64 (fun k a W => Hid (∃ u1_7 u1_8 u1_9 u1_10 u1_11 u1_12 u1_13 u1_14 u1_15 u1_16 u1_17 : Value, a = Act.mk [vU x0, .pointer (some ⟨w.heap.size, 0, none⟩), .int .i64 0, .pointer (some ⟨k1, 0, none⟩), .int .i64 ((k : Nat) : Int), vU x0, .agg (fnV 128 (two 64 (ofB x0).Z (ofB x0).O)).toArray, u1_7, u1_8, u1_9, u1_10, u1_11, u1_12, u1_13, u1_14, u1_15, u1_16, u1_17, undef].toArray [] ∧ St w [⟨w.heap.size, [some (.int .u64 (tn (x0.lo))), some (.int .u64 (tn (x0.hi)))], 24⟩, ⟨k1, ((fnV 128 (two 64 (ofB x0).Z (ofB x0).O)).map some), 48⟩] W ∧ allTo (noO x0) k = true)) (hid ⟨(undef), (undef), (undef), (undef), (undef), (undef), (undef), (undef), (undef), (undef), (undef), rfl, HS.out, rfl⟩) (fun r1 a W hr hR => ?_)
  obtain ⟨u1_7, u1_8, u1_9, u1_10, u1_11, u1_12, u1_13, u1_14, u1_15, u1_16, u1_17, rfl, hS, hP⟩ := hR.out
  replace HS := hid hS
  have HP1 := hid hP
  clear hP
  clear hS hR
  by_cases hlt1 : r1 < 64
  · -- round
    go_upto_region 3 with fail
    refine lnb HS.out rfl ?_
    refine lm 0 4 rfl rfl rfl rfl ?_
    simp only [sA, sB]
    refine lv 1 (.bool true) rfl rfl (by intro x hx; go_simp; (first | done | omega | (simp; omega))) ?_
    simp only [sA, sB]
    refine lm 2 8 rfl rfl rfl rfl ?_
    simp only [sA, sB]
    refine lv 3 (.int .i64 ((r1 : Nat) : Int)) rfl rfl (by intro x hx; go_simp; (first | done | exact rfl)) ?_
    simp only [sA, sB]
    refine lv 4 (.pointer (some ⟨k1, 64, none⟩)) rfl rfl (by intro x hx; go_simp; (first | done | exact rfl)) ?_
    simp only [sA, sB]
    refine lv 5 (.pointer (some ⟨k1, 64 + r1, none⟩)) rfl rfl (by intro x hx; go_simp; first | (rw [if_pos (by omega)]; done) | (rw [if_pos (by omega)]; rfl) | (intro hq; exfalso; omega) | (simp; omega)) ?_
    simp only [sA, sB]
    refine lv 6 (.bool ((ofB x0).O r1)) rfl rfl (by intro x hx; have f0 := hx.fn 1 (64 + r1) rfl (by omega); rw [two_hi] at f0; go_simp; (first | done | exact rfl)) ?_
    simp only [sA, sB]
    refine lv 7 (.bool ((!((ofB x0).O r1)))) rfl rfl (by intro x hx; go_simp; (first | done | exact rfl)) ?_
    simp only [sA, sB]
    refine lv 8 (.bool ((!((ofB x0).O r1)))) rfl rfl (by intro x hx; go_simp; (first | done | exact rfl)) ?_
    simp only [sA, sB]
    clear HS
    refine ld fun W3 HS => ?_
    cases h1 : ((!((ofB x0).O r1)))
    ·replace h1 := hid h1
     go_upto_region 5 with fail
     refine lnb HS.out rfl ?_
     refine lm 0 4 rfl rfl rfl rfl ?_
     simp only [sA, sB]
     refine la 1 18 rfl rfl rfl rfl ?_
     simp only [sA, sB]
     clear HS
     refine ld fun W4 HS => ?_
     go_wp2
     exact bodyPost_ret (v := .int .i64 ((r1 : Nat) : Int)) (by simp [results, Tryd.results47, go_sem]) rfl ⟨ret_nat (runs_is (by omega) HP1.out (.inr h1.out)).symm, HS.out.below⟩
    ·replace h1 := hid h1
     go_upto_region 4 with fail
     refine lnb HS.out rfl ?_
     refine lm 0 4 rfl rfl rfl rfl ?_
     simp only [sA, sB]
     refine lv 1 (.int .i64 ((r1 + 1 : Nat) : Int)) rfl rfl (by intro x hx; go_simp; (first | done | exact addN r1 1 (by omega) | exact congrArg _ (addN r1 1 (by omega)) | (rw [addN r1 1 (by omega)]; done) | (rw [addN r1 1 (by omega)]; rfl))) ?_
     simp only [sA, sB]
     refine la 2 17 rfl rfl rfl rfl ?_
     simp only [sA, sB]
     clear HS
     refine ld fun W4 HS => ?_
     go_wp2
     exact ⟨hlt1, hid ⟨_, _, _, _, _, _, _, _, _, _, _, rfl, HS.out, all_next HP1.out h1.out⟩⟩
  · have hN1 := hid (show r1 = 64 by omega)
    go_upto_region 3 with fail
    refine lnb HS.out rfl ?_
    refine lm 0 4 rfl rfl rfl rfl ?_
    simp only [sA, sB]
    refine lv 1 (.bool false) rfl rfl (by intro x hx; go_simp; (first | done | omega | (simp; omega))) ?_
    simp only [sA, sB]
    refine lm 2 8 rfl rfl rfl rfl ?_
    simp only [sA, sB]
    refine lin_no (i := 3) rfl rfl (by kernel_rfl) ?_
    simp only [sA, sB]
    refine lin_no (i := 4) rfl rfl (by kernel_rfl) ?_
    simp only [sA, sB]
    refine lin_no (i := 5) rfl rfl (by kernel_rfl) ?_
    simp only [sA, sB]
    refine lin_no (i := 6) rfl rfl (by kernel_rfl) ?_
    simp only [sA, sB]
    refine lin_no (i := 7) rfl rfl (by kernel_rfl) ?_
    simp only [sA, sB]
    refine lv 8 (.bool false) rfl rfl (by intro x hx; go_simp; (first | done | exact rfl)) ?_
    simp only [sA, sB]
    clear HS
    refine ld fun W3 HS => ?_
    go_upto_region 5 with fail
    refine lnb HS.out rfl ?_
    refine lm 0 4 rfl rfl rfl rfl ?_
    simp only [sA, sB]
    refine la 1 18 rfl rfl rfl rfl ?_
    simp only [sA, sB]
    clear HS
    refine ld fun W4 HS => ?_
    go_wp2
    exact bodyPost_ret (v := .int .i64 ((r1 : Nat) : Int)) (by simp [results, Tryd.results47, go_sem]) rfl ⟨ret_nat (runs_is (by omega) HP1.out (.inl hN1.out)).symm, HS.out.below⟩
end Go.Proofs.YtpbhfpogbndljaaDoor.Rt
