/-
  The walk of the law TnumKnown.
-/
import Derived.Deep.DeepCutAuto
import Derived.Test.YtpbhfpogbndljaaDoorRtY
import Derived.Test.YtpbhfpogbndljaaDoorRtV
namespace Go.Proofs.YtpbhfpogbndljaaDoor.Rt
open Go.RowKit Go.Proofs.YtpbhfpogbndljaaDoor.Num Go.Proofs.YtpbhfpogbndljaaDoor.Up
set_option maxRecDepth 100000 in
set_option maxHeartbeats 1000000 in
theorem tnum_All_any    (w : World) :
    Calls Tryd.prog 8 #[] w fun e w' => e = .returned (vU (P.mk 0#64 18446744073709551615#64)) ∧ Below w.heap.size w w' := by
  simp only [vU]
  go_enter Tryd.func8, Tryd.ntmps8
  have HS : Hid (St w [⟨w.heap.size, [some (.int .u64 0), some (.int .u64 0)], 24⟩] _) := hid ((st_nil w).alloc (k := w.heap.size) rfl [.int .u64 0, .int .u64 0] 24)
  go_upto_region 1 with fail
  refine lnb HS.out rfl ?_
  refine lv 0 (.agg #[.int .u64 0, .int .u64 18446744073709551615]) rfl rfl (by intro x hx; go_simp; (first | done | exact rfl)) ?_
  simp only [sA, sB]
  refine ls 1 0 0 [.int .u64 0, .int .u64 18446744073709551615] rfl rfl rfl (by intro x hx; obtain ⟨⟨_, z0, q0⟩, ⟨_, z1, q1⟩⟩ := hx.at2 0 0 rfl; go_simp; (first | done | rfl)) ?_
  simp only [Blk.putC, setM, sA, sB]
  clear HS
  refine ld fun W1 HS => ?_
  go_wp2
  obtain ⟨r0, r1⟩ := HS.out.two 0 0 rfl rfl
  exact bodyPost_ret (v := .agg #[.int .u64 0, .int .u64 18446744073709551615]) (by simp [results, Tryd.results8, go_sem, r0, r1]) rfl ⟨rfl, HS.out.below⟩
set_option maxRecDepth 100000 in
set_option maxHeartbeats 16000000 in
theorem tnumKnown    (w : World) (hT : Tn.Tab w) :
    Calls Tryd.prog 3 #[] w fun e w' => e = .returned (.bool true) ∧ Below w.heap.size w w' := by
  have HT := hid hT
  clear hT
  go_enter Tryd.func3, Tryd.ntmps3
  have HS : Hid (St w [] _) := hid (st_nil w)
  go_upto_region 1 with fail
  refine lnb HS.out rfl ?_
  refine lv 0 (.int .i64 0) rfl rfl (by intro x hx; go_simp; (first | done | exact rfl)) ?_
  simp only [sA, sB]
  clear HS
  refine ld fun W1 HS => ?_
  go_wp2
  refine loop_up 4096 (fun k a W => Hid (∃ u1_0 u1_2 u1_3 u1_5 u1_6 u1_7 u1_8 u1_9 u1_10 u1_11 u1_12 u1_13 u1_14 u1_15 u1_16 u1_17 u1_18 u1_19 u1_20 u1_21 u1_22 u1_23 u1_24 u1_25 u1_26 u1_27 u1_28 u1_29 u1_30 u1_31 u1_32 u1_33 u1_34 u1_35 u1_36 u1_37 u1_38 u1_39 : Value, a = Act.mk [u1_0, .int .i64 ((k : Nat) : Int), u1_2, u1_3, undef, u1_5, u1_6, u1_7, u1_8, u1_9, u1_10, u1_11, u1_12, u1_13, u1_14, u1_15, u1_16, u1_17, u1_18, u1_19, u1_20, u1_21, u1_22, u1_23, u1_24, u1_25, u1_26, u1_27, u1_28, u1_29, u1_30, u1_31, u1_32, u1_33, u1_34, u1_35, u1_36, u1_37, u1_38, u1_39, undef, undef, undef, undef, undef, undef, undef, undef, undef, undef, undef, undef, undef, undef, undef, undef, undef, undef, undef, undef, undef, undef, undef, undef, undef, undef, undef, undef, undef, undef, undef, undef, undef, undef, undef].toArray [] ∧ St w [] W)) (hid ⟨(.bool false), (undef), (undef), (undef), (undef), (undef), (undef), (undef), (undef), (undef), (undef), (undef), (undef), (undef), (undef), (undef), (undef), (undef), (undef), (undef), (undef), (undef), (undef), (undef), (undef), (undef), (undef), (undef), (undef), (undef), (undef), (undef), (undef), (undef), (undef), (undef), (undef), (undef), rfl, HS.out⟩) (fun r1 a W hr hR => ?_)
  obtain ⟨u1_0, u1_2, u1_3, u1_5, u1_6, u1_7, u1_8, u1_9, u1_10, u1_11, u1_12, u1_13, u1_14, u1_15, u1_16, u1_17, u1_18, u1_19, u1_20, u1_21, u1_22, u1_23, u1_24, u1_25, u1_26, u1_27, u1_28, u1_29, u1_30, u1_31, u1_32, u1_33, u1_34, u1_35, u1_36, u1_37, u1_38, u1_39, rfl, hS⟩ := hR.out
  replace HS := hid hS
  clear hS hR
  by_cases hlt1 : r1 < 4096
  · -- round
    go_upto_region 2 with fail
    refine lnb HS.out rfl ?_
    refine lm 0 1 rfl rfl rfl rfl ?_
    simp only [sA, sB]
    refine lv 1 (.bool true) rfl rfl (by intro x hx; go_simp; (first | done | omega | (simp; omega))) ?_
    simp only [sA, sB]
    clear HS
    refine ld fun W2 HS => ?_
    go_upto_region 4 with fail
    refine lnb HS.out rfl ?_
    refine lm 0 1 rfl rfl rfl rfl ?_
    simp only [sA, sB]
    refine lv 1 (.int .i64 ((r1 % 8 : Nat) : Int)) rfl rfl (by intro x hx; go_simp; (first | done | exact remN r1 8 | exact congrArg _ (remN r1 8) | (rw [remN r1 8]; done) | (rw [remN r1 8]; rfl))) ?_
    simp only [sA, sB]
    refine lv 2 (.int .u64 (tn (BitVec.ofNat 64 (r1 % 8)))) rfl rfl (by intro x hx; go_simp; (first | done | exact toU (r1 % 8) | exact congrArg _ (toU (r1 % 8)) | (rw [toU (r1 % 8)]; done) | (rw [toU (r1 % 8)]; rfl))) ?_
    simp only [sA, sB]
    refine lm 3 1 rfl rfl rfl rfl ?_
    simp only [sA, sB]
    refine lv 4 (.int .i64 ((r1 / 8 : Nat) : Int)) rfl rfl (by intro x hx; go_simp; (first | done | exact quoN r1 8 (by omega) | exact congrArg _ (quoN r1 8 (by omega)) | (rw [quoN r1 8 (by omega)]; done) | (rw [quoN r1 8 (by omega)]; rfl))) ?_
    simp only [sA, sB]
    refine lv 5 (.int .i64 (((r1 / 8) % 8 : Nat) : Int)) rfl rfl (by intro x hx; go_simp; (first | done | exact remN (r1 / 8) 8 | exact congrArg _ (remN (r1 / 8) 8) | (rw [remN (r1 / 8) 8]; done) | (rw [remN (r1 / 8) 8]; rfl))) ?_
    simp only [sA, sB]
    refine lv 6 (.int .u64 (tn (BitVec.ofNat 64 ((r1 / 8) % 8)))) rfl rfl (by intro x hx; go_simp; (first | done | exact toU ((r1 / 8) % 8) | exact congrArg _ (toU ((r1 / 8) % 8)) | (rw [toU ((r1 / 8) % 8)]; done) | (rw [toU ((r1 / 8) % 8)]; rfl))) ?_
    simp only [sA, sB]
    refine lv 7 (vU (P.mk (BitVec.ofNat 64 (r1 % 8)) (BitVec.ofNat 64 ((r1 / 8) % 8)))) rfl rfl (by intro x hx; go_simp; (first | done | exact rfl)) ?_
    simp only [sA, sB, vU]
    refine lin_new (i := 8) rfl rfl (by rfl) [.int .u64 0, .int .u64 0] 24 (fun k => .pointer (some ⟨k, 0, none⟩)) [some (.int .u64 0), some (.int .u64 0)] (lessC_refl _) (by intro x hx; go_simp; (first | done | exact rfl)) (fun k1 => ?_)
    simp only [sA, sB, sD]
    refine ls 9 0 0 (cU (P.mk (BitVec.ofNat 64 (r1 % 8)) (BitVec.ofNat 64 ((r1 / 8) % 8)))) rfl rfl rfl (by intro x hx; obtain ⟨⟨_, z0, q0⟩, ⟨_, z1, q1⟩⟩ := hx.at2 0 0 rfl; go_simp; (first | done | rfl)) ?_
    simp only [Blk.putC, setM, cU, sA, sB]
    clear HS
    refine ld fun W3 HS => ?_
    go_upto_region 5 with fail
    refine lnb HS.out rfl ?_
    refine lm 0 1 rfl rfl rfl rfl ?_
    simp only [sA, sB]
    refine lv 1 (.int .i64 ((r1 / 64 : Nat) : Int)) rfl rfl (by intro x hx; go_simp; (first | done | exact quoN r1 64 (by omega) | exact congrArg _ (quoN r1 64 (by omega)) | (rw [quoN r1 64 (by omega)]; done) | (rw [quoN r1 64 (by omega)]; rfl))) ?_
    simp only [sA, sB]
    refine lv 2 (.int .i64 (((r1 / 64) % 8 : Nat) : Int)) rfl rfl (by intro x hx; go_simp; (first | done | exact remN (r1 / 64) 8 | exact congrArg _ (remN (r1 / 64) 8) | (rw [remN (r1 / 64) 8]; done) | (rw [remN (r1 / 64) 8]; rfl))) ?_
    simp only [sA, sB]
    refine lv 3 (.int .u64 (tn (BitVec.ofNat 64 ((r1 / 64) % 8)))) rfl rfl (by intro x hx; go_simp; (first | done | exact toU ((r1 / 64) % 8) | exact congrArg _ (toU ((r1 / 64) % 8)) | (rw [toU ((r1 / 64) % 8)]; done) | (rw [toU ((r1 / 64) % 8)]; rfl))) ?_
    simp only [sA, sB]
    refine lm 4 1 rfl rfl rfl rfl ?_
    simp only [sA, sB]
    refine lv 5 (.int .i64 ((r1 / 512 : Nat) : Int)) rfl rfl (by intro x hx; go_simp; (first | done | exact quoN r1 512 (by omega) | exact congrArg _ (quoN r1 512 (by omega)) | (rw [quoN r1 512 (by omega)]; done) | (rw [quoN r1 512 (by omega)]; rfl))) ?_
    simp only [sA, sB]
    refine lv 6 (.int .u64 (tn (BitVec.ofNat 64 (r1 / 512)))) rfl rfl (by intro x hx; go_simp; (first | done | exact toU (r1 / 512) | exact congrArg _ (toU (r1 / 512)) | (rw [toU (r1 / 512)]; done) | (rw [toU (r1 / 512)]; rfl))) ?_
    simp only [sA, sB]
    refine lv 7 (vU (P.mk (BitVec.ofNat 64 ((r1 / 64) % 8)) (BitVec.ofNat 64 (r1 / 512)))) rfl rfl (by intro x hx; go_simp; (first | done | exact rfl)) ?_
    simp only [sA, sB, vU]
    refine lin_new (i := 8) rfl rfl (by rfl) [.int .u64 0, .int .u64 0] 24 (fun k => .pointer (some ⟨k, 0, none⟩)) [some (.int .u64 0), some (.int .u64 0)] (lessC_refl _) (by intro x hx; go_simp; (first | done | exact rfl)) (fun k2 => ?_)
    simp only [sA, sB, sC, sD]
    refine ls 9 1 0 (cU (P.mk (BitVec.ofNat 64 ((r1 / 64) % 8)) (BitVec.ofNat 64 (r1 / 512)))) rfl rfl rfl (by intro x hx; obtain ⟨⟨_, z0, q0⟩, ⟨_, z1, q1⟩⟩ := hx.at2 1 0 rfl; go_simp; (first | done | rfl)) ?_
    simp only [Blk.putC, setM, cU, sA, sB]
    clear HS
    refine ld fun W4 HS => ?_
    go_upto_region 6 with fail
    refine lnb HS.out rfl ?_
    refine lv 0 (vU (P.mk (BitVec.ofNat 64 (r1 % 8)) (BitVec.ofNat 64 ((r1 / 8) % 8)))) rfl rfl (by intro x hx; obtain ⟨f0, f1⟩ := hx.two 0 0 rfl rfl; go_simp; (first | done | exact rfl)) ?_
    simp only [sA, sB, vU]
    refine lv 1 (vU (P.mk (BitVec.ofNat 64 ((r1 / 64) % 8)) (BitVec.ofNat 64 (r1 / 512)))) rfl rfl (by intro x hx; obtain ⟨f0, f1⟩ := hx.two 1 0 rfl rfl; go_simp; (first | done | exact rfl)) ?_
    simp only [sA, sB, vU]
    refine lc 2 4 #[vU (P.mk (BitVec.ofNat 64 (r1 % 8)) (BitVec.ofNat 64 ((r1 / 8) % 8))), vU (P.mk (BitVec.ofNat 64 ((r1 / 64) % 8)) (BitVec.ofNat 64 (r1 / 512)))] (.bool true) rfl rfl (by intro x hx; exact calls_is (exact_any (P.mk (BitVec.ofNat 64 (r1 % 8)) (BitVec.ofNat 64 ((r1 / 8) % 8))) (P.mk (BitVec.ofNat 64 ((r1 / 64) % 8)) (BitVec.ofNat 64 (r1 / 512))) _) (congrArg Value.bool (exact_of hlt1))) ?_
    simp only [sA, sB]
    refine lv 3 (.bool false) rfl rfl (by intro x hx; go_simp; (first | done | exact rfl)) ?_
    simp only [sA, sB]
    refine lm 4 28 rfl rfl rfl rfl ?_
    simp only [sA, sB]
    refine lv 5 (vU (P.mk (BitVec.ofNat 64 (r1 % 8)) (BitVec.ofNat 64 ((r1 / 8) % 8)))) rfl rfl (by intro x hx; obtain ⟨f0, f1⟩ := hx.two 0 0 rfl rfl; go_simp; (first | done | exact rfl)) ?_
    simp only [sA, sB, vU]
    refine lv 6 (vU (P.mk (BitVec.ofNat 64 ((r1 / 64) % 8)) (BitVec.ofNat 64 (r1 / 512)))) rfl rfl (by intro x hx; obtain ⟨f0, f1⟩ := hx.two 1 0 rfl rfl; go_simp; (first | done | exact rfl)) ?_
    simp only [sA, sB, vU]
    refine lv 7 (.int .i64 ((r1 : Nat) : Int)) rfl rfl (by intro x hx; go_simp; (first | done | exact rfl)) ?_
    simp only [sA, sB]
    refine lv 8 (.int .i64 ((r1 % 16 : Nat) : Int)) rfl rfl (by intro x hx; go_simp; (first | done | exact remN r1 16 | exact congrArg _ (remN r1 16) | (rw [remN r1 16]; done) | (rw [remN r1 16]; rfl))) ?_
    simp only [sA, sB]
    refine lv 9 (.int .u64 (tn (BitVec.ofNat 64 (r1 % 16)))) rfl rfl (by intro x hx; go_simp; (first | done | exact toU (r1 % 16) | exact congrArg _ (toU (r1 % 16)) | (rw [toU (r1 % 16)]; done) | (rw [toU (r1 % 16)]; rfl))) ?_
    simp only [sA, sB]
    refine lv 10 (.int .i64 ((r1 : Nat) : Int)) rfl rfl (by intro x hx; go_simp; (first | done | exact rfl)) ?_
    simp only [sA, sB]
    refine lv 11 (.int .i64 ((r1 % 70 : Nat) : Int)) rfl rfl (by intro x hx; go_simp; (first | done | exact remN r1 70 | exact congrArg _ (remN r1 70) | (rw [remN r1 70]; done) | (rw [remN r1 70]; rfl))) ?_
    simp only [sA, sB]
    refine lc 12 5 #[vU (P.mk (BitVec.ofNat 64 (r1 % 8)) (BitVec.ofNat 64 ((r1 / 8) % 8))), vU (P.mk (BitVec.ofNat 64 ((r1 / 64) % 8)) (BitVec.ofNat 64 (r1 / 512))), .int .u64 (tn (BitVec.ofNat 64 (r1 % 16))), .int .i64 ((r1 % 70 : Nat) : Int)] (.bool true) rfl rfl (by intro x hx; exact says_nat (P.mk (BitVec.ofNat 64 (r1 % 8)) (BitVec.ofNat 64 ((r1 / 8) % 8))) (P.mk (BitVec.ofNat 64 ((r1 / 64) % 8)) (BitVec.ofNat 64 (r1 / 512))) (BitVec.ofNat 64 (r1 % 16)) (r1 % 70) (by omega) _ (HT.out.up hx.below)) ?_
    simp only [sA, sB]
    refine lv 13 (.bool false) rfl rfl (by intro x hx; go_simp; (first | done | exact rfl)) ?_
    simp only [sA, sB]
    refine lv 14 (.bool false) rfl rfl (by intro x hx; go_simp; (first | done | exact rfl)) ?_
    simp only [sA, sB]
    clear HS
    refine ld fun W5 HS => ?_
    go_upto_region 3 with fail
    refine lnb HS.out rfl ?_
    refine lm 0 1 rfl rfl rfl rfl ?_
    simp only [sA, sB]
    refine lv 1 (.int .i64 ((r1 + 1 : Nat) : Int)) rfl rfl (by intro x hx; go_simp; (first | done | exact addN r1 1 (by omega) | exact congrArg _ (addN r1 1 (by omega)) | (rw [addN r1 1 (by omega)]; done) | (rw [addN r1 1 (by omega)]; rfl))) ?_
    simp only [sA, sB]
    refine la 2 8 rfl rfl rfl rfl ?_
    simp only [sA, sB]
    clear HS
    refine ld fun W6 HS => ?_
    go_wp2
    exact ⟨hlt1, hid ⟨_, _, _, _, _, _, _, _, _, _, _, _, _, _, _, _, _, _, _, _, _, _, _, _, _, _, _, _, _, _, _, _, _, _, _, _, _, _, rfl, (St.fewer (m := [_, _]) HS.out)⟩⟩
  · have hN1 := hid (show r1 = 4096 by omega)
    go_upto_region 2 with fail
    refine lnb HS.out rfl ?_
    refine lm 0 1 rfl rfl rfl rfl ?_
    simp only [sA, sB]
    refine lv 1 (.bool false) rfl rfl (by intro x hx; go_simp; (first | done | omega | (simp; omega))) ?_
    simp only [sA, sB]
    clear HS
    refine ld fun W2 HS => ?_
    go_upto_region 8 with fail
    refine lnb HS.out rfl ?_
    refine lv 0 (.agg #[.int .u64 4, .int .u64 3]) rfl rfl (by intro x hx; go_simp; (first | done | exact rfl)) ?_
    simp only [sA, sB]
    refine lin_new (i := 1) rfl rfl (by rfl) [.int .u64 0, .int .u64 0] 24 (fun k => .pointer (some ⟨k, 0, none⟩)) [some (.int .u64 0), some (.int .u64 0)] (lessC_refl _) (by intro x hx; go_simp; (first | done | exact rfl)) (fun k1 => ?_)
    simp only [sA, sB, sD]
    refine ls 2 0 0 [.int .u64 4, .int .u64 3] rfl rfl rfl (by intro x hx; obtain ⟨⟨_, z0, q0⟩, ⟨_, z1, q1⟩⟩ := hx.at2 0 0 rfl; go_simp; (first | done | rfl)) ?_
    simp only [Blk.putC, setM, sA, sB]
    clear HS
    refine ld fun W3 HS => ?_
    go_upto_region 9 with fail
    refine upb 35 (HS.out.drew) rfl ?_
    refine tv 0 (.agg #[.int .u64 4, .int .u64 3]) rfl rfl (by intro x hx; obtain ⟨f0, f1⟩ := hx.two 0 0 rfl rfl; go_simp; (first | done | exact rfl)) ?_
    simp only [sA, sB]
    refine tc 1 7 #[.int .u64 (tn (1#64))] (vU (P.mk 1#64 0#64)) rfl rfl (by intro x hx; exact tnOf_any 1#64 _) ?_
    simp only [sA, sB, vU]
    refine tc 2 6 #[vU (P.mk 4#64 3#64), vU (P.mk 1#64 0#64)] (vU (tnMul (P.mk 4#64 3#64) (P.mk 1#64 0#64))) rfl rfl (by intro x hx; exact tnMul_any (P.mk 4#64 3#64) (P.mk 1#64 0#64) _ (HT.out.up hx.below)) ?_
    simp only [sA, sB, vU]
    refine tc 3 8 #[] (vU (P.mk 0#64 18446744073709551615#64)) rfl rfl (by intro x hx; exact tnum_All_any _) ?_
    simp only [sA, sB, vU]
    refine tv 4 (.bool true) rfl rfl (by intro x hx; go_simp; (first | done | exact (eqPT (fun b => Result.ok (Next.value (Value.bool b)) x) ((tnMul (P.mk 4#64 3#64) (P.mk 1#64 0#64)).lo) ((tnMul (P.mk 4#64 3#64) (P.mk 1#64 0#64)).hi) 0#64 18446744073709551615#64).trans (congrArg (fun b => Result.ok (Next.value (Value.bool b)) x) ((show (eqP (tnMul (P.mk 4#64 3#64) (P.mk 1#64 0#64)) (P.mk 0#64 18446744073709551615#64)) = true by decide +kernel))))) ?_
    simp only [sA, sB]
    refine tm 5 45 rfl rfl rfl rfl ?_
    simp only [sA, sB]
    refine tv 6 (.agg #[.int .u64 4, .int .u64 8]) rfl rfl (by intro x hx; go_simp; (first | done | exact rfl)) ?_
    simp only [sA, sB]
    refine tc 7 7 #[.int .u64 (tn (6#64))] (vU (P.mk 6#64 0#64)) rfl rfl (by intro x hx; exact tnOf_any 6#64 _) ?_
    simp only [sA, sB, vU]
    refine tc 8 6 #[vU (P.mk 4#64 8#64), vU (P.mk 6#64 0#64)] (vU (tnMul (P.mk 4#64 8#64) (P.mk 6#64 0#64))) rfl rfl (by intro x hx; exact tnMul_any (P.mk 4#64 8#64) (P.mk 6#64 0#64) _ (HT.out.up hx.below)) ?_
    simp only [sA, sB, vU]
    refine tv 9 (.agg #[.int .u64 0, .int .u64 18446744073709551608]) rfl rfl (by intro x hx; go_simp; (first | done | exact rfl)) ?_
    simp only [sA, sB]
    refine tv 10 (.bool true) rfl rfl (by intro x hx; go_simp; (first | done | exact (eqPT (fun b => Result.ok (Next.value (Value.bool b)) x) ((tnMul (P.mk 4#64 8#64) (P.mk 6#64 0#64)).lo) ((tnMul (P.mk 4#64 8#64) (P.mk 6#64 0#64)).hi) 0#64 18446744073709551608#64).trans (congrArg (fun b => Result.ok (Next.value (Value.bool b)) x) ((show (eqP (tnMul (P.mk 4#64 8#64) (P.mk 6#64 0#64)) (P.mk 0#64 18446744073709551608#64)) = true by decide +kernel))))) ?_
    simp only [sA, sB]
    refine tv 11 (.bool true) rfl rfl (by intro x hx; go_simp; (first | done | exact rfl)) ?_
    simp only [sA, sB]
    refine tm 12 52 rfl rfl rfl rfl ?_
    simp only [sA, sB]
    refine tv 13 (.agg #[.int .u64 4, .int .u64 3]) rfl rfl (by intro x hx; obtain ⟨f0, f1⟩ := hx.two 0 0 rfl rfl; go_simp; (first | done | exact rfl)) ?_
    simp only [sA, sB]
    refine tc 14 9 #[vU (P.mk 4#64 3#64), .int .i64 (ti (1#64))] (vU (tnLsh (P.mk 4#64 3#64) 1#64)) rfl rfl (by intro x hx; exact tnLsh_any (P.mk 4#64 3#64) 1#64 _) ?_
    simp only [sA, sB, vU]
    refine tv 15 (.agg #[.int .u64 8, .int .u64 6]) rfl rfl (by intro x hx; go_simp; (first | done | exact rfl)) ?_
    simp only [sA, sB]
    refine tv 16 (.bool true) rfl rfl (by intro x hx; go_simp; (first | done | exact (eqPT (fun b => Result.ok (Next.value (Value.bool b)) x) ((tnLsh (P.mk 4#64 3#64) 1#64).lo) ((tnLsh (P.mk 4#64 3#64) 1#64).hi) 8#64 6#64).trans (congrArg (fun b => Result.ok (Next.value (Value.bool b)) x) ((show (eqP (tnLsh (P.mk 4#64 3#64) 1#64) (P.mk 8#64 6#64)) = true by decide +kernel))))) ?_
    simp only [sA, sB]
    refine tv 17 (.bool true) rfl rfl (by intro x hx; go_simp; (first | done | exact rfl)) ?_
    simp only [sA, sB]
    refine tm 18 58 rfl rfl rfl rfl ?_
    simp only [sA, sB]
    refine tv 19 (.agg #[.int .u64 0, .int .u64 9223372036854775808]) rfl rfl (by intro x hx; go_simp; (first | done | exact rfl)) ?_
    simp only [sA, sB]
    refine tc 20 10 #[vU (P.mk 0#64 9223372036854775808#64), .int .i64 (ti (1#64))] (vU (tnArsh (P.mk 0#64 9223372036854775808#64) 1#64)) rfl rfl (by intro x hx; exact tnArsh_any (P.mk 0#64 9223372036854775808#64) 1#64 _) ?_
    simp only [sA, sB, vU]
    refine tv 21 (.agg #[.int .u64 0, .int .u64 13835058055282163712]) rfl rfl (by intro x hx; go_simp; (first | done | exact rfl)) ?_
    simp only [sA, sB]
    refine tv 22 (.bool true) rfl rfl (by intro x hx; go_simp; (first | done | exact (eqPT (fun b => Result.ok (Next.value (Value.bool b)) x) ((tnArsh (P.mk 0#64 9223372036854775808#64) 1#64).lo) ((tnArsh (P.mk 0#64 9223372036854775808#64) 1#64).hi) 0#64 13835058055282163712#64).trans (congrArg (fun b => Result.ok (Next.value (Value.bool b)) x) ((show (eqP (tnArsh (P.mk 0#64 9223372036854775808#64) 1#64) (P.mk 0#64 13835058055282163712#64)) = true by decide +kernel))))) ?_
    simp only [sA, sB]
    refine tv 23 (.bool true) rfl rfl (by intro x hx; go_simp; (first | done | exact rfl)) ?_
    simp only [sA, sB]
    refine tm 24 64 rfl rfl rfl rfl ?_
    simp only [sA, sB]
    refine tv 25 (.agg #[.int .u64 4, .int .u64 3]) rfl rfl (by intro x hx; obtain ⟨f0, f1⟩ := hx.two 0 0 rfl rfl; go_simp; (first | done | exact rfl)) ?_
    simp only [sA, sB]
    refine tc 26 7 #[.int .u64 (tn (0#64))] (vU (P.mk 0#64 0#64)) rfl rfl (by intro x hx; exact tnOf_any 0#64 _) ?_
    simp only [sA, sB, vU]
    refine tc 27 11 #[vU (P.mk 4#64 3#64), vU (P.mk 0#64 0#64)] (vU (tnSub (P.mk 4#64 3#64) (P.mk 0#64 0#64))) rfl rfl (by intro x hx; exact tnSub_any (P.mk 4#64 3#64) (P.mk 0#64 0#64) _) ?_
    simp only [sA, sB, vU]
    refine tv 28 (.agg #[.int .u64 4, .int .u64 3]) rfl rfl (by intro x hx; obtain ⟨f0, f1⟩ := hx.two 0 0 rfl rfl; go_simp; (first | done | exact rfl)) ?_
    simp only [sA, sB]
    refine tv 29 (.bool true) rfl rfl (by intro x hx; go_simp; (first | done | exact (eqPT (fun b => Result.ok (Next.value (Value.bool b)) x) ((tnSub (P.mk 4#64 3#64) (P.mk 0#64 0#64)).lo) ((tnSub (P.mk 4#64 3#64) (P.mk 0#64 0#64)).hi) 4#64 3#64).trans (congrArg (fun b => Result.ok (Next.value (Value.bool b)) x) ((show (eqP (tnSub (P.mk 4#64 3#64) (P.mk 0#64 0#64)) (P.mk 4#64 3#64)) = true by decide +kernel))))) ?_
    simp only [sA, sB]
    refine tv 30 (.bool true) rfl rfl (by intro x hx; go_simp; (first | done | exact rfl)) ?_
    simp only [sA, sB]
    refine tm 31 71 rfl rfl rfl rfl ?_
    simp only [sA, sB]
    refine tc 32 12 #[] (.bool true) rfl rfl (by intro x hx; exact law_works_any _) ?_
    simp only [sA, sB]
    refine tv 33 (.bool true) rfl rfl (by intro x hx; go_simp; (first | done | exact rfl)) ?_
    simp only [sA, sB]
    refine ta 34 74 rfl rfl rfl rfl ?_
    simp only [sB]
    clear HS
    refine td fun W4 HS => ?_
    go_wp2
    exact bodyPost_ret (v := .bool true) (by simp [results, Tryd.results3, go_sem]) rfl ⟨rfl, HS.out.below⟩
end Go.Proofs.YtpbhfpogbndljaaDoor.Rt
