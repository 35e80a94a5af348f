/-
  The document's Mul of tnums.
-/
import Derived.Deep.DeepCutAuto
import Derived.Test.YtpbhfpogbndljaaDoorRtD
namespace Go.Proofs.YtpbhfpogbndljaaDoor.Rt
open Go.RowKit Go.Proofs.YtpbhfpogbndljaaDoor.Num Go.Proofs.YtpbhfpogbndljaaDoor.Up
set_option maxRecDepth 100000 in
set_option maxHeartbeats 1000000 in
theorem ref_one_any (x0 : P)   (w : World) :
    Calls Tryd.prog 46 #[vU x0] w fun e w' => e = .returned (.bool ((x0.hi == 0#64))) ∧ Below w.heap.size w w' := by
  simp only [vU]
  go_enter Tryd.func46, Tryd.ntmps46
  have HS : Hid (St w [⟨w.heap.size, [some (.int .u64 (tn (x0.lo))), some (.int .u64 (tn (x0.hi)))], 24⟩] _) := hid ((st_nil w).alloc (k := w.heap.size) rfl [.int .u64 (tn (x0.lo)), .int .u64 (tn (x0.hi))] 24)
  go_upto_region 1 with fail
  refine lnb HS.out rfl ?_
  refine lv 0 (.pointer (some ⟨w.heap.size, 1, none⟩)) rfl rfl (by intro x hx; go_simp; (first | done | exact rfl)) ?_
  simp only [sA, sB]
  refine lv 1 (.int .u64 (tn (x0.hi))) rfl rfl (by intro x hx; have f0 := hx.load 0 1 rfl rfl; go_simp; (first | done | exact rfl)) ?_
  simp only [sA, sB]
  refine lv 2 (.bool ((x0.hi == 0#64))) rfl rfl (by intro x hx; go_simp; (first | done | exact eqUT x0.hi 0#64 | exact congrArg _ (eqUT x0.hi 0#64) | (rw [eqUT x0.hi 0#64]; done) | (rw [eqUT x0.hi 0#64]; rfl))) ?_
  simp only [sA, sB]
  refine la 3 5 rfl rfl rfl rfl ?_
  simp only [sA, sB]
  clear HS
  refine ld fun W1 HS => ?_
  go_wp2
  exact bodyPost_ret (v := .bool ((x0.hi == 0#64))) (by simp [results, Tryd.results46, go_sem]) rfl ⟨rfl, HS.out.below⟩
def mulB (n : Nat) : BB := ⟨fun _ => true, fun i => decide (i ≥ n)⟩
def refMul (a b : P) : P := bif (bif (a.hi == 0#64) then (b.hi == 0#64) else false) then P.mk (a.lo * b.lo) 0#64 else tnumB (mulB (nou a + nou b))
set_option maxRecDepth 100000 in
set_option maxHeartbeats 1000000 in
theorem ref_Mul_any (x0 : P) (x1 : P)   (w : World) :
    Calls Tryd.prog 23 #[vU x0, vU x1] w fun e w' => e = .returned (vU (refMul x0 x1)) ∧ Below w.heap.size w w' := by
  have hz48 := zero_48
  simp only [vU]
  have hn0 := nou_le x0
  have hn1 := nou_le x1
  go_enter Tryd.func23, Tryd.ntmps23
  have HS : Hid (St w [⟨w.heap.size, [some (.int .u64 (tn (x0.lo))), some (.int .u64 (tn (x0.hi)))], 24⟩, ⟨w.heap.size + 1, [some (.int .u64 (tn (x1.lo))), some (.int .u64 (tn (x1.hi)))], 24⟩, ⟨w.heap.size + 2, [some (.int .u64 0), some (.int .u64 0)], 24⟩] _) := hid ((((st_nil w).alloc (k := w.heap.size) rfl [.int .u64 (tn (x0.lo)), .int .u64 (tn (x0.hi))] 24).alloc (k := w.heap.size + 1) (by simp) [.int .u64 (tn (x1.lo)), .int .u64 (tn (x1.hi))] 24).alloc (k := w.heap.size + 2) (by simp) [.int .u64 0, .int .u64 0] 24)
  go_upto_region 1 with fail
  refine lnb HS.out rfl ?_
  refine lv 0 (vU x0) rfl rfl (by intro x hx; obtain ⟨f0, f1⟩ := hx.two 0 0 rfl rfl; go_simp; (first | done | exact rfl)) ?_
  simp only [sA, sB, vU]
  refine lc 1 46 #[vU x0] (.bool ((x0.hi == 0#64))) rfl rfl (by intro x hx; exact ref_one_any x0 _) ?_
  simp only [sA, sB]
  refine lm 2 9 rfl rfl rfl rfl ?_
  simp only [sA, sB]
  refine lin_if (i := 3) (v := vU x1) (x0.hi == 0#64) rfl rfl (by generalize (x0.hi == 0#64) = gg0; cases gg0 <;> rfl) (by intro hb; have hb103 := hid (show ((x0.hi == 0#64)) = true from hb); intro x hx; (try simp only [hb]); (try simp only [cond_true]); obtain ⟨f0, f1⟩ := hx.two 1 0 rfl rfl; go_simp; (first | done | exact rfl)) ?_
  simp only [sA, sB, vU]
  refine lin_if_call (i := 4) (f := 46) (args := #[vU x1]) (v := .bool ((x1.hi == 0#64))) (x0.hi == 0#64) (st_ups _ _) rfl rfl (by generalize (x0.hi == 0#64) = gg0; cases gg0 <;> rfl) (by intro hb; have hb104 := hid (show ((x0.hi == 0#64)) = true from hb); intro x hx; (try simp only [hb]); (try simp only [cond_true]); kernel_rfl) (by intro hb; have hb104 := hid (show ((x0.hi == 0#64)) = true from hb); intro x hx; exact ref_one_any x1 _) ?_
  simp only [sA, sB]
  refine lv 5 (.bool ((bif (x0.hi == 0#64) then (x1.hi == 0#64) else false))) rfl rfl (by intro x hx; (cases hq : ((x0.hi == 0#64)) <;> first | rfl | (simp only [hq]; rfl) | simp [hq])) ?_
  simp only [sA, sB]
  clear HS
  refine ld fun W1 HS => ?_
  cases h1 : ((bif (x0.hi == 0#64) then (x1.hi == 0#64) else false))
  ·replace h1 := hid h1
   go_upto_region 3 with fail
   refine upb 6 (HS.out.drew) rfl ?_
   refine tv 0 (vU x0) rfl rfl (by intro x hx; obtain ⟨f0, f1⟩ := hx.two 0 0 rfl rfl; go_simp; (first | done | exact rfl)) ?_
   simp only [sA, sB, vU]
   refine tc 1 47 #[vU x0] (.int .i64 ((nou x0 : Nat) : Int)) rfl rfl (by intro x hx; exact ref_noughts_any x0 _) ?_
   simp only [sA, sB]
   refine tv 2 (vU x1) rfl rfl (by intro x hx; obtain ⟨f0, f1⟩ := hx.two 1 0 rfl rfl; go_simp; (first | done | exact rfl)) ?_
   simp only [sA, sB, vU]
   refine tc 3 47 #[vU x1] (.int .i64 ((nou x1 : Nat) : Int)) rfl rfl (by intro x hx; exact ref_noughts_any x1 _) ?_
   simp only [sA, sB]
   refine tv 4 (.int .i64 (((nou x0) + (nou x1) : Nat) : Int)) rfl rfl (by intro x hx; go_simp; (first | done | exact addN (nou x0) (nou x1) (by omega) | exact congrArg _ (addN (nou x0) (nou x1) (by omega)) | (rw [addN (nou x0) (nou x1) (by omega)]; done) | (rw [addN (nou x0) (nou x1) (by omega)]; rfl))) ?_
   simp only [sA, sB]
   refine ta 5 24 rfl rfl rfl rfl ?_
   simp only [sA, sB]
   clear HS
   refine td fun W2 HS => ?_
   go_upto_region 4 with fail
   refine lnb HS.out rfl ?_
   refine lin_new (i := 0) rfl rfl (by rfl) (fnV 128 (fun _ => false)) 48 (fun k => .pointer (some ⟨k, 0, none⟩)) ((fnV 128 (fun _ => false)).map some) (lessC_refl _) (by intro x hx; go_simp; (first | done | exact rfl)) (fun k1 => ?_)
   simp only [sA, sB, sC, sD]
   clear HS
   refine ld fun W3 HS => ?_
   go_upto_region 5 with fail
   refine lnb HS.out rfl ?_
   refine lv 0 (.int .i64 0) rfl rfl (by intro x hx; go_simp; (first | done | exact rfl)) ?_
   simp only [sA, sB]
   clear HS
   refine ld fun W4 HS => ?_
   go_wp2
   refine loop_up 64 (fun k a W => Hid (∃ u1_25 u1_26 u1_27 u1_28 u1_29 u1_30 u1_31 u1_32 u1_33 u1_34 u1_35 u1_36 u1_37 : Value, a = Act.mk [vU x0, vU x1, .pointer (some ⟨w.heap.size, 0, none⟩), .pointer (some ⟨w.heap.size + 1, 0, none⟩), .pointer (some ⟨w.heap.size + 2, 0, none⟩), .int .i64 (((nou x0) + (nou x1) : Nat) : Int), .pointer (some ⟨k1, 0, none⟩), .int .i64 ((k : Nat) : Int), vU x0, .bool ((x0.hi == 0#64)), .bool ((x0.hi == 0#64)), cond (x0.hi == 0#64) (vU x1) undef, cond (x0.hi == 0#64) (.bool ((x1.hi == 0#64))) undef, .bool false, undef, undef, undef, undef, undef, undef, vU x0, .int .i64 ((nou x0 : Nat) : Int), vU x1, .int .i64 ((nou x1 : Nat) : Int), .int .i64 (((nou x0) + (nou x1) : Nat) : Int), u1_25, u1_26, u1_27, u1_28, u1_29, u1_30, u1_31, u1_32, u1_33, u1_34, u1_35, u1_36, u1_37, undef, undef].toArray [] ∧ St w [⟨w.heap.size, [some (.int .u64 (tn (x0.lo))), some (.int .u64 (tn (x0.hi)))], 24⟩, ⟨w.heap.size + 1, [some (.int .u64 (tn (x1.lo))), some (.int .u64 (tn (x1.hi)))], 24⟩, ⟨w.heap.size + 2, [some (.int .u64 0), some (.int .u64 0)], 24⟩, ⟨k1, ((fnV 128 (two 64 (upto k (mulB (nou x0 + nou x1)).Z) (upto k (mulB (nou x0 + nou x1)).O))).map some), 48⟩] W)) (hid ⟨(undef), (undef), (undef), (undef), (undef), (undef), (undef), (undef), (undef), (undef), (undef), (undef), (undef), rfl, (by have h := HS.out; rw [← bits_none (mulB (nou x0 + nou x1)).Z (mulB (nou x0 + nou x1)).O] at h; exact h)⟩) (fun r1 a W hr hR => ?_)
   obtain ⟨u1_25, u1_26, u1_27, u1_28, u1_29, u1_30, u1_31, u1_32, u1_33, u1_34, u1_35, u1_36, u1_37, rfl, hS⟩ := hR.out
   replace HS := hid hS
   clear hS hR
   by_cases hlt1 : r1 < 64
   · -- round
     go_upto_region 6 with fail
     refine lnb HS.out rfl ?_
     refine lm 0 7 rfl rfl rfl rfl ?_
     simp only [sA, sB]
     refine lv 1 (.bool true) rfl rfl (by intro x hx; go_simp; (first | done | omega | (simp; omega))) ?_
     simp only [sA, sB]
     clear HS
     refine ld fun W5 HS => ?_
     go_upto_region 8 with fail
     refine lnb HS.out rfl ?_
     refine lm 0 7 rfl rfl rfl rfl ?_
     simp only [sA, sB]
     refine lv 1 (.pointer (some ⟨k1, 0, none⟩)) rfl rfl (by intro x hx; go_simp; (first | done | exact rfl)) ?_
     simp only [sA, sB]
     refine lv 2 (.pointer (some ⟨k1, r1, none⟩)) rfl rfl (by intro x hx; go_simp; first | (rw [if_pos (by omega)]; done) | (rw [if_pos (by omega)]; rfl) | (intro hq; exfalso; omega) | (simp; omega)) ?_
     simp only [sA, sB]
     refine lin_store (i := 3) (St w [⟨w.heap.size, [some (.int .u64 (tn (x0.lo))), some (.int .u64 (tn (x0.hi)))], 24⟩, ⟨w.heap.size + 1, [some (.int .u64 (tn (x1.lo))), some (.int .u64 (tn (x1.hi)))], 24⟩, ⟨w.heap.size + 2, [some (.int .u64 0), some (.int .u64 0)], 24⟩, ⟨k1, ((fnV 128 (upd (two 64 (upto r1 (mulB (nou x0 + nou x1)).Z) (upto r1 (mulB (nou x0 + nou x1)).O)) r1 true)).map some), 48⟩]) rfl rfl (by rfl) (fun x => x.setCell ⟨k1, r1, none⟩ (.bool true)) (by intro x hx; have z0 := hx.fn 3 (r1) rfl (by omega); have q0 := hx.soft 3 (r1) rfl; go_simp; (first | done | rfl)) (fun x hx => hx.fnset 3 (r1) true rfl) ?_
     clear HS
     refine ld fun W6 HS => ?_
     go_upto_region 9 with fail
     refine lnb HS.out rfl ?_
     refine lm 0 7 rfl rfl rfl rfl ?_
     simp only [sA, sB]
     refine lm 1 7 rfl rfl rfl rfl ?_
     simp only [sA, sB]
     refine lm 2 5 rfl rfl rfl rfl ?_
     simp only [sA, sB]
     refine lv 3 (.bool ((decide (r1 ≥ ((nou x0) + (nou x1)))))) rfl rfl (by intro x hx; go_simp; (first | done | exact decide_eq_decide.2 (by omega) | omega | (trace_state; sorry))) ?_
     simp only [sA, sB]
     refine lv 4 (.pointer (some ⟨k1, 64, none⟩)) rfl rfl (by intro x hx; go_simp; (first | done | exact rfl)) ?_
     simp only [sA, sB]
     refine lv 5 (.pointer (some ⟨k1, 64 + r1, none⟩)) rfl rfl (by intro x hx; go_simp; first | (rw [if_pos (by omega)]; done) | (rw [if_pos (by omega)]; rfl) | (intro hq; exfalso; omega) | (simp; omega)) ?_
     simp only [sA, sB]
     refine lin_store (i := 6) (St w [⟨w.heap.size, [some (.int .u64 (tn (x0.lo))), some (.int .u64 (tn (x0.hi)))], 24⟩, ⟨w.heap.size + 1, [some (.int .u64 (tn (x1.lo))), some (.int .u64 (tn (x1.hi)))], 24⟩, ⟨w.heap.size + 2, [some (.int .u64 0), some (.int .u64 0)], 24⟩, ⟨k1, ((fnV 128 (upd (upd (two 64 (upto r1 (mulB (nou x0 + nou x1)).Z) (upto r1 (mulB (nou x0 + nou x1)).O)) r1 true) (64 + r1) (decide (r1 ≥ ((nou x0) + (nou x1)))))).map some), 48⟩]) rfl rfl (by rfl) (fun x => x.setCell ⟨k1, 64 + r1, none⟩ (.bool (decide (r1 ≥ ((nou x0) + (nou x1)))))) (by intro x hx; have z0 := hx.fn 3 (64 + r1) rfl (by omega); have q0 := hx.soft 3 (64 + r1) rfl; go_simp; (first | done | rfl)) (fun x hx => hx.fnset 3 (64 + r1) (decide (r1 ≥ ((nou x0) + (nou x1)))) rfl) ?_
     clear HS
     refine ld fun W7 HS => ?_
     go_upto_region 7 with fail
     refine lnb HS.out rfl ?_
     refine lm 0 7 rfl rfl rfl rfl ?_
     simp only [sA, sB]
     refine lv 1 (.int .i64 ((r1 + 1 : Nat) : Int)) rfl rfl (by intro x hx; go_simp; (first | done | exact addN r1 1 (by omega) | exact congrArg _ (addN r1 1 (by omega)) | (rw [addN r1 1 (by omega)]; done) | (rw [addN r1 1 (by omega)]; rfl))) ?_
     simp only [sA, sB]
     refine la 2 28 rfl rfl rfl rfl ?_
     simp only [sA, sB]
     clear HS
     refine ld fun W8 HS => ?_
     go_wp2
     exact ⟨hlt1, hid ⟨_, _, _, _, _, _, _, _, _, _, _, _, _, rfl, (by have h := HS.out; rw [upd_lo (by omega), upd_hi, upto_next (by rfl), upto_next (by rfl)] at h; exact h)⟩⟩
   · have hN1 := hid (show r1 = 64 by omega)
     replace HS := hid (show St w [⟨w.heap.size, [some (.int .u64 (tn (x0.lo))), some (.int .u64 (tn (x0.hi)))], 24⟩, ⟨w.heap.size + 1, [some (.int .u64 (tn (x1.lo))), some (.int .u64 (tn (x1.hi)))], 24⟩, ⟨w.heap.size + 2, [some (.int .u64 0), some (.int .u64 0)], 24⟩, ⟨k1, ((fnV 128 (two 64 (mulB (nou x0 + nou x1)).Z (mulB (nou x0 + nou x1)).O)).map some), 48⟩] W from (by have h := HS.out; rw [hN1.out, bits_all] at h; exact h))
     go_upto_region 6 with fail
     refine lnb HS.out rfl ?_
     refine lm 0 7 rfl rfl rfl rfl ?_
     simp only [sA, sB]
     refine lv 1 (.bool false) rfl rfl (by intro x hx; go_simp; (first | done | omega | (simp; omega))) ?_
     simp only [sA, sB]
     clear HS
     refine ld fun W5 HS => ?_
     go_upto_region 10 with fail
     refine lnb HS.out rfl ?_
     refine lv 0 (.agg (fnV 128 (two 64 (mulB (nou x0 + nou x1)).Z (mulB (nou x0 + nou x1)).O)).toArray) rfl rfl (by intro x hx; exact loadF hx 3 rfl rfl rfl (fun w => by kernel_rfl) (fun w => by kernel_rfl)) ?_
     simp only [sA, sB]
     refine lc 1 44 #[.agg (fnV 128 (two 64 (mulB (nou x0 + nou x1)).Z (mulB (nou x0 + nou x1)).O)).toArray] (vU (tnumB (mulB (nou x0 + nou x1)))) rfl rfl (by intro x hx; exact ref_Tnum_any (mulB (nou x0 + nou x1)) _) ?_
     simp only [sA, sB, vU]
     refine ls 2 2 0 (cU (tnumB (mulB (nou x0 + nou x1)))) rfl rfl rfl (by intro x hx; obtain ⟨⟨_, z0, q0⟩, ⟨_, z1, q1⟩⟩ := hx.at2 2 0 rfl; go_simp; (first | done | rfl)) ?_
     simp only [Blk.putC, setM, cU, sA, sB]
     clear HS
     refine ld fun W6 HS => ?_
     go_wp2
     obtain ⟨r0, r1⟩ := HS.out.two 2 0 rfl rfl
     exact bodyPost_ret (v := vU (tnumB (mulB (nou x0 + nou x1)))) (by simp [results, Tryd.results23, go_sem, r0, r1, vU]) rfl ⟨(by rw [show refMul x0 x1 = tnumB (mulB (nou x0 + nou x1)) from cond_f h1.out]; rfl), HS.out.below⟩
  ·replace h1 := hid h1
   go_upto_region 2 with fail
   refine lnb HS.out rfl ?_
   refine lv 0 (.pointer (some ⟨w.heap.size, 0, none⟩)) rfl rfl (by intro x hx; go_simp; (first | done | exact rfl)) ?_
   simp only [sA, sB]
   refine lv 1 (.int .u64 (tn (x0.lo))) rfl rfl (by intro x hx; have f0 := hx.load 0 0 rfl rfl; go_simp; (first | done | exact rfl)) ?_
   simp only [sA, sB]
   refine lv 2 (.pointer (some ⟨w.heap.size + 1, 0, none⟩)) rfl rfl (by intro x hx; go_simp; (first | done | exact rfl)) ?_
   simp only [sA, sB]
   refine lv 3 (.int .u64 (tn (x1.lo))) rfl rfl (by intro x hx; have f0 := hx.load 1 0 rfl rfl; go_simp; (first | done | exact rfl)) ?_
   simp only [sA, sB]
   refine lv 4 (.int .u64 (tn (x0.lo * x1.lo))) rfl rfl (by intro x hx; go_simp; (first | done | exact mulUT x0.lo x1.lo | exact congrArg _ (mulUT x0.lo x1.lo) | (rw [mulUT x0.lo x1.lo]; done) | (rw [mulUT x0.lo x1.lo]; rfl))) ?_
   simp only [sA, sB]
   refine lv 5 (.agg #[.int .u64 (tn (x0.lo * x1.lo)), .int .u64 0]) rfl rfl (by intro x hx; go_simp; (first | done | exact rfl)) ?_
   simp only [sA, sB]
   refine ls 6 2 0 [.int .u64 (tn (x0.lo * x1.lo)), .int .u64 0] rfl rfl rfl (by intro x hx; obtain ⟨⟨_, z0, q0⟩, ⟨_, z1, q1⟩⟩ := hx.at2 2 0 rfl; go_simp; (first | done | rfl)) ?_
   simp only [Blk.putC, setM, sA, sB]
   clear HS
   refine ld fun W2 HS => ?_
   go_wp2
   obtain ⟨r0, r1⟩ := HS.out.two 2 0 rfl rfl
   exact bodyPost_ret (v := .agg #[.int .u64 (tn (x0.lo * x1.lo)), .int .u64 0]) (by simp [results, Tryd.results23, go_sem, r0, r1]) rfl ⟨(by rw [show refMul x0 x1 = P.mk (x0.lo * x1.lo) 0#64 from cond_t h1.out]; rfl), HS.out.below⟩
end Go.Proofs.YtpbhfpogbndljaaDoor.Rt
