/-
  The document's bits of a tnum.
-/
import Derived.Deep.DeepCutAuto
import Derived.Test.YtpbhfpogbndljaaDoorLoop
import Derived.Test.YtpbhfpogbndljaaDoorSm
namespace Go.Proofs.YtpbhfpogbndljaaDoor.Rt
open Go.RowKit Go.Proofs.YtpbhfpogbndljaaDoor.Num Go.Proofs.YtpbhfpogbndljaaDoor.Up
structure BB where
  Z : Nat → Bool
  O : Nat → Bool
def ofB (a : P) : BB := ⟨fun i => a.hi.getLsbD i || !a.lo.getLsbD i, fun i => a.hi.getLsbD i || a.lo.getLsbD i⟩
theorem zero_48 (w : World) : (zeroValue 48).run Tryd.prog w = .ok (.agg (fnV 128 fun _ => false).toArray) w := by kernel_rfl
set_option maxRecDepth 100000 in
set_option maxHeartbeats 1000000 in
theorem ref_Of_any (x0 : P)   (w : World) :
    Calls Tryd.prog 43 #[vU x0] w fun e w' => e = .returned (.agg (fnV 128 (two 64 (ofB x0).Z (ofB x0).O)).toArray) ∧ Below w.heap.size w w' := by
  have hz48 := zero_48
  simp only [vU]
  go_enter Tryd.func43, Tryd.ntmps43
  have HS : Hid (St w [⟨w.heap.size, [some (.int .u64 (tn (x0.lo))), some (.int .u64 (tn (x0.hi)))], 24⟩, ⟨w.heap.size + 1, ((fnV 128 (fun _ => false)).map some), 48⟩] _) := hid (((st_nil w).alloc (k := w.heap.size) rfl [.int .u64 (tn (x0.lo)), .int .u64 (tn (x0.hi))] 24).alloc (k := w.heap.size + 1) (by simp) (fnV 128 (fun _ => false)) 48)
  go_upto_region 1 with fail
  refine lnb HS.out rfl ?_
  refine lin_new (i := 0) rfl rfl (by rfl) (fnV 128 (fun _ => false)) 48 (fun k => .pointer (some ⟨k, 0, none⟩)) ((fnV 128 (fun _ => false)).map some) (lessC_refl _) (by intro x hx; go_simp; (first | done | exact rfl)) (fun k1 => ?_)
  simp only [sA, sB, sC, sD]
  clear HS
  refine ld fun W1 HS => ?_
  go_upto_region 2 with fail
  refine lnb HS.out rfl ?_
  refine lv 0 (.int .i64 0) rfl rfl (by intro x hx; go_simp; (first | done | exact rfl)) ?_
  simp only [sA, sB]
  clear HS
  refine ld fun W2 HS => ?_
  go_wp2
  refine loop_up 64 (fun k a W => Hid (∃ u1_5 u1_6 u1_7 u1_8 u1_9 u1_10 u1_11 u1_12 u1_13 u1_14 u1_15 u1_16 u1_17 u1_18 u1_19 u1_20 u1_21 u1_22 u1_23 u1_24 u1_25 u1_26 u1_27 u1_28 u1_29 u1_30 u1_31 u1_32 u1_33 u1_34 u1_35 u1_36 u1_37 u1_38 u1_39 : Value, a = Act.mk [vU x0, .pointer (some ⟨w.heap.size, 0, none⟩), .pointer (some ⟨w.heap.size + 1, 0, none⟩), .pointer (some ⟨k1, 0, none⟩), .int .i64 ((k : Nat) : Int), u1_5, u1_6, u1_7, u1_8, u1_9, u1_10, u1_11, u1_12, u1_13, u1_14, u1_15, u1_16, u1_17, u1_18, u1_19, u1_20, u1_21, u1_22, u1_23, u1_24, u1_25, u1_26, u1_27, u1_28, u1_29, u1_30, u1_31, u1_32, u1_33, u1_34, u1_35, u1_36, u1_37, u1_38, u1_39, undef].toArray [] ∧ St w [⟨w.heap.size, [some (.int .u64 (tn (x0.lo))), some (.int .u64 (tn (x0.hi)))], 24⟩, ⟨w.heap.size + 1, ((fnV 128 (fun _ => false)).map some), 48⟩, ⟨k1, ((fnV 128 (two 64 (upto k (ofB x0).Z) (upto k (ofB x0).O))).map some), 48⟩] W)) (hid ⟨(undef), (undef), (undef), (undef), (undef), (undef), (undef), (undef), (undef), (undef), (undef), (undef), (undef), (undef), (undef), (undef), (undef), (undef), (undef), (undef), (undef), (undef), (undef), (undef), (undef), (undef), (undef), (undef), (undef), (undef), (undef), (undef), (undef), (undef), (undef), rfl, (by have h := HS.out; rw [← bits_none (ofB x0).Z (ofB x0).O] at h; exact h)⟩) (fun r1 a W hr hR => ?_)
  obtain ⟨u1_5, u1_6, u1_7, u1_8, u1_9, u1_10, u1_11, u1_12, u1_13, u1_14, u1_15, u1_16, u1_17, u1_18, u1_19, u1_20, u1_21, u1_22, u1_23, u1_24, u1_25, u1_26, u1_27, u1_28, u1_29, u1_30, u1_31, u1_32, u1_33, u1_34, u1_35, u1_36, u1_37, u1_38, u1_39, rfl, hS⟩ := hR.out
  replace HS := hid hS
  clear hS hR
  by_cases hlt1 : r1 < 64
  · -- round
    go_upto_region 3 with fail
    refine lnb HS.out rfl ?_
    refine lm 0 4 rfl rfl rfl rfl ?_
    simp only [sA, sB]
    refine lv 1 (.bool true) rfl rfl (by intro x hx; go_simp; (first | done | omega | (simp; omega))) ?_
    simp only [sA, sB]
    clear HS
    refine ld fun W3 HS => ?_
    go_upto_region 5 with fail
    refine lnb HS.out rfl ?_
    refine lv 0 (.pointer (some ⟨w.heap.size, 1, none⟩)) rfl rfl (by intro x hx; go_simp; (first | done | exact rfl)) ?_
    simp only [sA, sB]
    refine lv 1 (.int .u64 (tn (x0.hi))) rfl rfl (by intro x hx; have f0 := hx.load 0 1 rfl rfl; go_simp; (first | done | exact rfl)) ?_
    simp only [sA, sB]
    refine lm 2 4 rfl rfl rfl rfl ?_
    simp only [sA, sB]
    refine lv 3 (.int .u64 (tn (BitVec.ofNat 64 r1))) rfl rfl (by intro x hx; go_simp; (first | done | exact toU r1 | exact congrArg _ (toU r1) | (rw [toU r1]; done) | (rw [toU r1]; rfl))) ?_
    simp only [sA, sB]
    refine lv 4 (.int .u64 (tn (x0.hi >>> (BitVec.ofNat 64 r1).toNat))) rfl rfl (by intro x hx; have hy := tn_lo (BitVec.ofNat 64 r1); go_simp; (first | done | exact shrUU x0.hi (BitVec.ofNat 64 r1) hy | exact congrArg _ (shrUU x0.hi (BitVec.ofNat 64 r1) hy) | (rw [shrUU x0.hi (BitVec.ofNat 64 r1) hy]; done) | (rw [shrUU x0.hi (BitVec.ofNat 64 r1) hy]; rfl))) ?_
    simp only [sA, sB]
    refine lv 5 (.int .u64 (tn ((x0.hi >>> (BitVec.ofNat 64 r1).toNat) % 2#64))) rfl rfl (by intro x hx; go_simp; (first | done | exact remUT (x0.hi >>> (BitVec.ofNat 64 r1).toNat) 2#64 | exact congrArg _ (remUT (x0.hi >>> (BitVec.ofNat 64 r1).toNat) 2#64) | (rw [remUT (x0.hi >>> (BitVec.ofNat 64 r1).toNat) 2#64]; done) | (rw [remUT (x0.hi >>> (BitVec.ofNat 64 r1).toNat) 2#64]; rfl))) ?_
    simp only [sA, sB]
    refine lv 6 (.bool (x0.hi.getLsbD r1)) rfl rfl (by intro x hx; rw [← show ((((x0.hi >>> (BitVec.ofNat 64 r1).toNat) % 2#64) == 1#64)) = (x0.hi.getLsbD r1) from bit_at _ _ (by omega)]; go_simp; (first | done | exact eqUT ((x0.hi >>> (BitVec.ofNat 64 r1).toNat) % 2#64) 1#64 | exact congrArg _ (eqUT ((x0.hi >>> (BitVec.ofNat 64 r1).toNat) % 2#64) 1#64) | (rw [eqUT ((x0.hi >>> (BitVec.ofNat 64 r1).toNat) % 2#64) 1#64]; done) | (rw [eqUT ((x0.hi >>> (BitVec.ofNat 64 r1).toNat) % 2#64) 1#64]; rfl))) ?_
    simp only [sA, sB]
    refine la 7 17 rfl rfl rfl rfl ?_
    simp only [sA, sB]
    clear HS
    refine ld fun W4 HS => ?_
    go_upto_region 6 with fail
    refine lnb HS.out rfl ?_
    refine lv 0 (.pointer (some ⟨w.heap.size, 0, none⟩)) rfl rfl (by intro x hx; go_simp; (first | done | exact rfl)) ?_
    simp only [sA, sB]
    refine lv 1 (.int .u64 (tn (x0.lo))) rfl rfl (by intro x hx; have f0 := hx.load 0 0 rfl rfl; go_simp; (first | done | exact rfl)) ?_
    simp only [sA, sB]
    refine lm 2 4 rfl rfl rfl rfl ?_
    simp only [sA, sB]
    refine lv 3 (.int .u64 (tn (BitVec.ofNat 64 r1))) rfl rfl (by intro x hx; go_simp; (first | done | exact toU r1 | exact congrArg _ (toU r1) | (rw [toU r1]; done) | (rw [toU r1]; rfl))) ?_
    simp only [sA, sB]
    refine lv 4 (.int .u64 (tn (x0.lo >>> (BitVec.ofNat 64 r1).toNat))) rfl rfl (by intro x hx; have hy := tn_lo (BitVec.ofNat 64 r1); go_simp; (first | done | exact shrUU x0.lo (BitVec.ofNat 64 r1) hy | exact congrArg _ (shrUU x0.lo (BitVec.ofNat 64 r1) hy) | (rw [shrUU x0.lo (BitVec.ofNat 64 r1) hy]; done) | (rw [shrUU x0.lo (BitVec.ofNat 64 r1) hy]; rfl))) ?_
    simp only [sA, sB]
    refine lv 5 (.int .u64 (tn ((x0.lo >>> (BitVec.ofNat 64 r1).toNat) % 2#64))) rfl rfl (by intro x hx; go_simp; (first | done | exact remUT (x0.lo >>> (BitVec.ofNat 64 r1).toNat) 2#64 | exact congrArg _ (remUT (x0.lo >>> (BitVec.ofNat 64 r1).toNat) 2#64) | (rw [remUT (x0.lo >>> (BitVec.ofNat 64 r1).toNat) 2#64]; done) | (rw [remUT (x0.lo >>> (BitVec.ofNat 64 r1).toNat) 2#64]; rfl))) ?_
    simp only [sA, sB]
    refine lv 6 (.bool (x0.lo.getLsbD r1)) rfl rfl (by intro x hx; rw [← show ((((x0.lo >>> (BitVec.ofNat 64 r1).toNat) % 2#64) == 1#64)) = (x0.lo.getLsbD r1) from bit_at _ _ (by omega)]; go_simp; (first | done | exact eqUT ((x0.lo >>> (BitVec.ofNat 64 r1).toNat) % 2#64) 1#64 | exact congrArg _ (eqUT ((x0.lo >>> (BitVec.ofNat 64 r1).toNat) % 2#64) 1#64) | (rw [eqUT ((x0.lo >>> (BitVec.ofNat 64 r1).toNat) % 2#64) 1#64]; done) | (rw [eqUT ((x0.lo >>> (BitVec.ofNat 64 r1).toNat) % 2#64) 1#64]; rfl))) ?_
    simp only [sA, sB]
    refine la 7 24 rfl rfl rfl rfl ?_
    simp only [sA, sB]
    clear HS
    refine ld fun W5 HS => ?_
    go_upto_region 7 with fail
    refine lnb HS.out rfl ?_
    refine lm 0 4 rfl rfl rfl rfl ?_
    simp only [sA, sB]
    refine lm 1 5 rfl rfl rfl rfl ?_
    simp only [sA, sB]
    refine lm 2 26 rfl rfl rfl rfl ?_
    simp only [sA, sB]
    refine lin_if (i := 3) (v := .bool (x0.lo.getLsbD r1)) (!(x0.hi.getLsbD r1)) rfl rfl (by generalize (x0.hi.getLsbD r1) = gg0; cases gg0 <;> rfl) (by intro hb; have hb1 := hid (show (x0.hi.getLsbD r1) = false from nnb hb); intro x hx; (try simp only [hb]); (try simp only [cond_true]); go_simp; (first | done | exact rfl)) ?_
    simp only [sA, sB]
    refine lin_if (i := 4) (v := .bool ((!(x0.lo.getLsbD r1)))) (!(x0.hi.getLsbD r1)) rfl rfl (by generalize (x0.hi.getLsbD r1) = gg0; cases gg0 <;> rfl) (by intro hb; have hb2 := hid (show (x0.hi.getLsbD r1) = false from nnb hb); intro x hx; (try simp only [hb]); (try simp only [cond_true]); go_simp; (first | done | exact rfl)) ?_
    simp only [sA, sB]
    refine lv 5 (.bool ((bif x0.hi.getLsbD r1 then true else (!(x0.lo.getLsbD r1))))) rfl rfl (by intro x hx; (cases hq : (x0.hi.getLsbD r1) <;> first | rfl | (simp only [hq]; rfl) | simp [hq])) ?_
    simp only [sA, sB]
    refine lv 6 (.pointer (some ⟨k1, 0, none⟩)) rfl rfl (by intro x hx; go_simp; (first | done | exact rfl)) ?_
    simp only [sA, sB]
    refine lv 7 (.pointer (some ⟨k1, r1, none⟩)) rfl rfl (by intro x hx; go_simp; first | (rw [if_pos (by omega)]; done) | (rw [if_pos (by omega)]; rfl) | (intro hq; exfalso; omega) | (simp; omega)) ?_
    simp only [sA, sB]
    refine lin_store (i := 8) (St w [⟨w.heap.size, [some (.int .u64 (tn (x0.lo))), some (.int .u64 (tn (x0.hi)))], 24⟩, ⟨w.heap.size + 1, ((fnV 128 (fun _ => false)).map some), 48⟩, ⟨k1, ((fnV 128 (upd (two 64 (upto r1 (ofB x0).Z) (upto r1 (ofB x0).O)) r1 (bif x0.hi.getLsbD r1 then true else (!(x0.lo.getLsbD r1))))).map some), 48⟩]) rfl rfl (by rfl) (fun x => x.setCell ⟨k1, r1, none⟩ (.bool (bif x0.hi.getLsbD r1 then true else (!(x0.lo.getLsbD r1))))) (by intro x hx; have z0 := hx.fn 2 (r1) rfl (by omega); have q0 := hx.soft 2 (r1) rfl; go_simp; (first | done | rfl)) (fun x hx => hx.fnset 2 (r1) (bif x0.hi.getLsbD r1 then true else (!(x0.lo.getLsbD r1))) rfl) ?_
    clear HS
    refine ld fun W6 HS => ?_
    go_upto_region 8 with fail
    refine lnb HS.out rfl ?_
    refine lm 0 4 rfl rfl rfl rfl ?_
    simp only [sA, sB]
    refine lm 1 5 rfl rfl rfl rfl ?_
    simp only [sA, sB]
    refine lm 2 34 rfl rfl rfl rfl ?_
    simp only [sA, sB]
    refine lin_if (i := 3) (v := .bool (x0.lo.getLsbD r1)) (!(x0.hi.getLsbD r1)) rfl rfl (by generalize (x0.hi.getLsbD r1) = gg0; cases gg0 <;> rfl) (by intro hb; have hb3 := hid (show (x0.hi.getLsbD r1) = false from nnb hb); intro x hx; (try simp only [hb]); (try simp only [cond_true]); go_simp; (first | done | exact rfl)) ?_
    simp only [sA, sB]
    refine lv 4 (.bool ((bif x0.hi.getLsbD r1 then true else x0.lo.getLsbD r1))) rfl rfl (by intro x hx; (cases hq : (x0.hi.getLsbD r1) <;> first | rfl | (simp only [hq]; rfl) | simp [hq])) ?_
    simp only [sA, sB]
    refine lv 5 (.pointer (some ⟨k1, 64, none⟩)) rfl rfl (by intro x hx; go_simp; (first | done | exact rfl)) ?_
    simp only [sA, sB]
    refine lv 6 (.pointer (some ⟨k1, 64 + r1, none⟩)) rfl rfl (by intro x hx; go_simp; first | (rw [if_pos (by omega)]; done) | (rw [if_pos (by omega)]; rfl) | (intro hq; exfalso; omega) | (simp; omega)) ?_
    simp only [sA, sB]
    refine lin_store (i := 7) (St w [⟨w.heap.size, [some (.int .u64 (tn (x0.lo))), some (.int .u64 (tn (x0.hi)))], 24⟩, ⟨w.heap.size + 1, ((fnV 128 (fun _ => false)).map some), 48⟩, ⟨k1, ((fnV 128 (upd (upd (two 64 (upto r1 (ofB x0).Z) (upto r1 (ofB x0).O)) r1 (bif x0.hi.getLsbD r1 then true else (!(x0.lo.getLsbD r1)))) (64 + r1) (bif x0.hi.getLsbD r1 then true else x0.lo.getLsbD r1))).map some), 48⟩]) rfl rfl (by rfl) (fun x => x.setCell ⟨k1, 64 + r1, none⟩ (.bool (bif x0.hi.getLsbD r1 then true else x0.lo.getLsbD r1))) (by intro x hx; have z0 := hx.fn 2 (64 + r1) rfl (by omega); have q0 := hx.soft 2 (64 + r1) rfl; go_simp; (first | done | rfl)) (fun x hx => hx.fnset 2 (64 + r1) (bif x0.hi.getLsbD r1 then true else x0.lo.getLsbD r1) rfl) ?_
    clear HS
    refine ld fun W7 HS => ?_
    go_upto_region 4 with fail
    refine lnb HS.out rfl ?_
    refine lm 0 4 rfl rfl rfl rfl ?_
    simp only [sA, sB]
    refine lv 1 (.int .i64 ((r1 + 1 : Nat) : Int)) rfl rfl (by intro x hx; go_simp; (first | done | exact addN r1 1 (by omega) | exact congrArg _ (addN r1 1 (by omega)) | (rw [addN r1 1 (by omega)]; done) | (rw [addN r1 1 (by omega)]; rfl))) ?_
    simp only [sA, sB]
    refine la 2 10 rfl rfl rfl rfl ?_
    simp only [sA, sB]
    clear HS
    refine ld fun W8 HS => ?_
    go_wp2
    exact ⟨hlt1, hid ⟨_, _, _, _, _, _, _, _, _, _, _, _, _, _, _, _, _, _, _, _, _, _, _, _, _, _, _, _, _, _, _, _, _, _, _, rfl, (by have h := HS.out; rw [upd_lo (by omega), upd_hi, upto_next (by rfl), upto_next (by rfl)] at h; exact h)⟩⟩
  · have hN1 := hid (show r1 = 64 by omega)
    replace HS := hid (show St w [⟨w.heap.size, [some (.int .u64 (tn (x0.lo))), some (.int .u64 (tn (x0.hi)))], 24⟩, ⟨w.heap.size + 1, ((fnV 128 (fun _ => false)).map some), 48⟩, ⟨k1, ((fnV 128 (two 64 (ofB x0).Z (ofB x0).O)).map some), 48⟩] W from (by have h := HS.out; rw [hN1.out, bits_all] at h; exact h))
    go_upto_region 3 with fail
    refine lnb HS.out rfl ?_
    refine lm 0 4 rfl rfl rfl rfl ?_
    simp only [sA, sB]
    refine lv 1 (.bool false) rfl rfl (by intro x hx; go_simp; (first | done | omega | (simp; omega))) ?_
    simp only [sA, sB]
    clear HS
    refine ld fun W3 HS => ?_
    go_upto_region 9 with fail
    refine lnb HS.out rfl ?_
    refine lv 0 (.agg (fnV 128 (two 64 (ofB x0).Z (ofB x0).O)).toArray) rfl rfl (by intro x hx; exact loadF hx 2 rfl rfl rfl (fun w => by kernel_rfl) (fun w => by kernel_rfl)) ?_
    simp only [sA, sB]
    refine lin_store (i := 1) (St w [⟨w.heap.size, [some (.int .u64 (tn (x0.lo))), some (.int .u64 (tn (x0.hi)))], 24⟩, ⟨w.heap.size + 1, ((fnV 128 (two 64 (ofB x0).Z (ofB x0).O)).map some), 48⟩, ⟨k1, ((fnV 128 (two 64 (ofB x0).Z (ofB x0).O)).map some), 48⟩]) rfl rfl (by rfl) (fun x => x.setCells (w.heap.size + 1) 0 (fnV 128 (two 64 (ofB x0).Z (ofB x0).O))) (by intro x hx; exact storeF hx 1 rfl (by simp [fnV_len]) (fnV_one _ _) rfl rfl rfl (fun w => by rw [fnV_len]; kernel_rfl)) (fun x hx => hx.putF 1 _ rfl (by simp [fnV_len])) ?_
    clear HS
    refine ld fun W4 HS => ?_
    go_wp2
    have r0 := loadVar_run (P := Tryd.prog) (t := 48) HS.out 1 rfl (fun w => by kernel_rfl) (fun w => by kernel_rfl)
    exact bodyPost_ret (v := .agg (fnV 128 (two 64 (ofB x0).Z (ofB x0).O)).toArray) (results_cell Tryd.results43 rfl r0) rfl ⟨rfl, HS.out.below⟩
end Go.Proofs.YtpbhfpogbndljaaDoor.Rt
