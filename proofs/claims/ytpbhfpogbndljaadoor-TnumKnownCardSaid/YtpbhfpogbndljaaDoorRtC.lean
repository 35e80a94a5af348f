/-
  The document's In, Within, Cut of tnums.
-/
import Derived.Deep.DeepCutAuto
import Derived.Test.YtpbhfpogbndljaaDoorRtB
namespace Go.Proofs.YtpbhfpogbndljaaDoor.Rt
open Go.RowKit Go.Proofs.YtpbhfpogbndljaaDoor.Num Go.Proofs.YtpbhfpogbndljaaDoor.Up
set_option maxRecDepth 100000 in
set_option maxHeartbeats 1000000 in
theorem ref_Cut_any (x0 : P)   (w : World) :
    Calls Tryd.prog 27 #[vU x0] w fun e w' => e = .returned (vU (refAnd x0 (P.mk 4294967295#64 0#64))) ∧ Below w.heap.size w w' := by
  simp only [vU]
  go_enter Tryd.func27, Tryd.ntmps27
  have HS : Hid (St w [⟨w.heap.size, [some (.int .u64 (tn (x0.lo))), some (.int .u64 (tn (x0.hi)))], 24⟩, ⟨w.heap.size + 1, [some (.int .u64 0), some (.int .u64 0)], 24⟩] _) := hid (((st_nil w).alloc (k := w.heap.size) rfl [.int .u64 (tn (x0.lo)), .int .u64 (tn (x0.hi))] 24).alloc (k := w.heap.size + 1) (by simp) [.int .u64 0, .int .u64 0] 24)
  go_upto_region 1 with fail
  refine lnb HS.out rfl ?_
  refine lv 0 (vU x0) rfl rfl (by intro x hx; obtain ⟨f0, f1⟩ := hx.two 0 0 rfl rfl; go_simp; (first | done | exact rfl)) ?_
  simp only [sA, sB, vU]
  refine lv 1 (.agg #[.int .u64 4294967295, .int .u64 0]) rfl rfl (by intro x hx; go_simp; (first | done | exact rfl)) ?_
  simp only [sA, sB]
  refine lc 2 18 #[vU x0, vU (P.mk 4294967295#64 0#64)] (vU (refAnd x0 (P.mk 4294967295#64 0#64))) rfl rfl (by intro x hx; exact ref_And_any x0 (P.mk 4294967295#64 0#64) _) ?_
  simp only [sA, sB, vU]
  refine ls 3 1 0 (cU (refAnd x0 (P.mk 4294967295#64 0#64))) rfl rfl rfl (by intro x hx; obtain ⟨⟨_, z0, q0⟩, ⟨_, z1, q1⟩⟩ := hx.at2 1 0 rfl; go_simp; (first | done | rfl)) ?_
  simp only [Blk.putC, setM, cU, sA, sB]
  clear HS
  refine ld fun W1 HS => ?_
  go_wp2
  obtain ⟨r0, r1⟩ := HS.out.two 1 0 rfl rfl
  exact bodyPost_ret (v := vU (refAnd x0 (P.mk 4294967295#64 0#64))) (by simp [results, Tryd.results27, go_sem, r0, r1, vU]) rfl ⟨rfl, HS.out.below⟩
def inF (b : BB) (v : BitVec 64) : Nat → Bool := fun i => !(bif (bif v.getLsbD i then !b.O i else false) then true else (bif !v.getLsbD i then !b.Z i else false))
def refIn (a : P) (v : BitVec 64) : Bool := allTo (inF (ofB a) v) 64
def withinF (x y : BB) : Nat → Bool := fun i => !(bif (bif x.Z i then !y.Z i else false) then true else (bif x.O i then !y.O i else false))
def refWithin (a b : P) : Bool := allTo (withinF (ofB a) (ofB b)) 64
theorem all_next {F : Nat → Bool} {k : Nat} (h : allTo F k = true) (g : F k = true) : allTo F (k + 1) = true := by unfold allTo; rw [h, g]; rfl
theorem nf {b : Bool} (h : b = true) : (!b) = false := by rw [h]; rfl
theorem nt {b : Bool} (h : b = false) : (!b) = true := by rw [h]; rfl
set_option maxRecDepth 100000 in
set_option maxHeartbeats 1000000 in
theorem ref_In_any (x0 : P) (x1 : BitVec 64)   (w : World) :
    Calls Tryd.prog 30 #[vU x0, .int .u64 (tn (x1))] w fun e w' => e = .returned (.bool (refIn x0 x1)) ∧ Below w.heap.size w w' := by
  have hz48 := zero_48
  simp only [vU]
  go_enter Tryd.func30, Tryd.ntmps30
  have HS : Hid (St w [⟨w.heap.size, [some (.int .u64 (tn (x0.lo))), some (.int .u64 (tn (x0.hi)))], 24⟩] _) := hid ((st_nil w).alloc (k := w.heap.size) rfl [.int .u64 (tn (x0.lo)), .int .u64 (tn (x0.hi))] 24)
  go_upto_region 1 with fail
  refine lnb HS.out rfl ?_
  refine lv 0 (vU x0) rfl rfl (by intro x hx; obtain ⟨f0, f1⟩ := hx.two 0 0 rfl rfl; go_simp; (first | done | exact rfl)) ?_
  simp only [sA, sB, vU]
  refine lc 1 43 #[vU x0] (.agg (fnV 128 (two 64 (ofB x0).Z (ofB x0).O)).toArray) rfl rfl (by intro x hx; exact ref_Of_any x0 _) ?_
  simp only [sA, sB]
  refine lin_new (i := 2) rfl rfl (by rfl) (fnV 128 (fun _ => false)) 48 (fun k => .pointer (some ⟨k, 0, none⟩)) ((fnV 128 (fun _ => false)).map some) (lessC_refl _) (by intro x hx; go_simp; (first | done | exact rfl)) (fun k1 => ?_)
  simp only [sA, sB, sC, sD]
  refine lin_store (i := 3) (St w [⟨w.heap.size, [some (.int .u64 (tn (x0.lo))), some (.int .u64 (tn (x0.hi)))], 24⟩, ⟨k1, ((fnV 128 (two 64 (ofB x0).Z (ofB x0).O)).map some), 48⟩]) rfl rfl (by rfl) (fun x => x.setCells k1 0 (fnV 128 (two 64 (ofB x0).Z (ofB x0).O))) (by intro x hx; exact storeF hx 1 rfl (by simp [fnV_len]) (fnV_one _ _) rfl rfl rfl (fun w => by rw [fnV_len]; kernel_rfl)) (fun x hx => hx.putF 1 _ rfl (by simp [fnV_len])) ?_
  clear HS
  refine ld fun W1 HS => ?_
  go_upto_region 2 with fail
  refine lnb HS.out rfl ?_
  refine lv 0 (.int .i64 0) rfl rfl (by intro x hx; go_simp; (first | done | exact rfl)) ?_
  simp only [sA, sB]
  clear HS
  refine ld fun W2 HS => ?_
  go_wp2
  refine loop_up 64 (fun k a W => Hid (∃ u1_4 u1_7 u1_10 u1_11 u1_12 u1_13 u1_14 u1_15 u1_16 u1_17 u1_18 u1_19 u1_20 u1_21 u1_22 u1_23 u1_24 u1_25 u1_26 u1_27 u1_28 u1_29 u1_30 u1_31 u1_32 u1_33 u1_34 u1_35 u1_36 u1_37 u1_38 : Value, a = Act.mk [vU x0, .int .u64 (tn (x1)), .pointer (some ⟨w.heap.size, 0, none⟩), undef, u1_4, .pointer (some ⟨k1, 0, none⟩), .int .i64 ((k : Nat) : Int), u1_7, vU x0, .agg (fnV 128 (two 64 (ofB x0).Z (ofB x0).O)).toArray, u1_10, u1_11, u1_12, u1_13, u1_14, u1_15, u1_16, u1_17, u1_18, u1_19, u1_20, u1_21, u1_22, u1_23, u1_24, u1_25, u1_26, u1_27, u1_28, u1_29, u1_30, u1_31, u1_32, u1_33, u1_34, u1_35, u1_36, u1_37, u1_38].toArray [] ∧ St w [⟨w.heap.size, [some (.int .u64 (tn (x0.lo))), some (.int .u64 (tn (x0.hi)))], 24⟩, ⟨k1, ((fnV 128 (two 64 (ofB x0).Z (ofB x0).O)).map some), 48⟩] W ∧ allTo (inF (ofB x0) x1) k = true)) (hid ⟨(.bool false), (undef), (undef), (undef), (undef), (undef), (undef), (undef), (undef), (undef), (undef), (undef), (undef), (undef), (undef), (undef), (undef), (undef), (undef), (undef), (undef), (undef), (undef), (undef), (undef), (undef), (undef), (undef), (undef), (undef), (undef), rfl, HS.out, rfl⟩) (fun r1 a W hr hR => ?_)
  obtain ⟨u1_4, u1_7, u1_10, u1_11, u1_12, u1_13, u1_14, u1_15, u1_16, u1_17, u1_18, u1_19, u1_20, u1_21, u1_22, u1_23, u1_24, u1_25, u1_26, u1_27, u1_28, u1_29, u1_30, u1_31, u1_32, u1_33, u1_34, u1_35, u1_36, u1_37, u1_38, rfl, hS, hP⟩ := hR.out
  replace HS := hid hS
  have HP1 := hid hP
  clear hP
  clear hS hR
  by_cases hlt1 : r1 < 64
  · -- round
    go_upto_region 3 with fail
    refine lnb HS.out rfl ?_
    refine lm 0 6 rfl rfl rfl rfl ?_
    simp only [sA, sB]
    refine lv 1 (.bool true) rfl rfl (by intro x hx; go_simp; (first | done | omega | (simp; omega))) ?_
    simp only [sA, sB]
    clear HS
    refine ld fun W3 HS => ?_
    go_upto_region 5 with fail
    refine lnb HS.out rfl ?_
    refine lm 0 1 rfl rfl rfl rfl ?_
    simp only [sA, sB]
    refine lm 1 6 rfl rfl rfl rfl ?_
    simp only [sA, sB]
    refine lv 2 (.int .u64 (tn (BitVec.ofNat 64 r1))) rfl rfl (by intro x hx; go_simp; (first | done | exact toU r1 | exact congrArg _ (toU r1) | (rw [toU r1]; done) | (rw [toU r1]; rfl))) ?_
    simp only [sA, sB]
    refine lv 3 (.int .u64 (tn (x1 >>> (BitVec.ofNat 64 r1).toNat))) rfl rfl (by intro x hx; have hy := tn_lo (BitVec.ofNat 64 r1); go_simp; (first | done | exact shrUU x1 (BitVec.ofNat 64 r1) hy | exact congrArg _ (shrUU x1 (BitVec.ofNat 64 r1) hy) | (rw [shrUU x1 (BitVec.ofNat 64 r1) hy]; done) | (rw [shrUU x1 (BitVec.ofNat 64 r1) hy]; rfl))) ?_
    simp only [sA, sB]
    refine lv 4 (.int .u64 (tn ((x1 >>> (BitVec.ofNat 64 r1).toNat) % 2#64))) rfl rfl (by intro x hx; go_simp; (first | done | exact remUT (x1 >>> (BitVec.ofNat 64 r1).toNat) 2#64 | exact congrArg _ (remUT (x1 >>> (BitVec.ofNat 64 r1).toNat) 2#64) | (rw [remUT (x1 >>> (BitVec.ofNat 64 r1).toNat) 2#64]; done) | (rw [remUT (x1 >>> (BitVec.ofNat 64 r1).toNat) 2#64]; rfl))) ?_
    simp only [sA, sB]
    refine lv 5 (.bool (x1.getLsbD r1)) rfl rfl (by intro x hx; rw [← show ((((x1 >>> (BitVec.ofNat 64 r1).toNat) % 2#64) == 1#64)) = (x1.getLsbD r1) from bit_at _ _ (by omega)]; go_simp; (first | done | exact eqUT ((x1 >>> (BitVec.ofNat 64 r1).toNat) % 2#64) 1#64 | exact congrArg _ (eqUT ((x1 >>> (BitVec.ofNat 64 r1).toNat) % 2#64) 1#64) | (rw [eqUT ((x1 >>> (BitVec.ofNat 64 r1).toNat) % 2#64) 1#64]; done) | (rw [eqUT ((x1 >>> (BitVec.ofNat 64 r1).toNat) % 2#64) 1#64]; rfl))) ?_
    simp only [sA, sB]
    refine la 6 19 rfl rfl rfl rfl ?_
    simp only [sA, sB]
    clear HS
    refine ld fun W4 HS => ?_
    go_upto_region 6 with fail
    refine lnb HS.out rfl ?_
    refine lm 0 7 rfl rfl rfl rfl ?_
    simp only [sA, sB]
    refine lm 1 20 rfl rfl rfl rfl ?_
    simp only [sA, sB]
    refine lin_if (i := 2) (v := .int .i64 ((r1 : Nat) : Int)) (x1.getLsbD r1) rfl rfl (by generalize (x1.getLsbD r1) = gg0; cases gg0 <;> rfl) (by intro hb; have hb60 := hid (show (x1.getLsbD r1) = true from hb); intro x hx; (try simp only [hb]); (try simp only [cond_true]); go_simp; (first | done | exact rfl)) ?_
    simp only [sA, sB]
    refine lin_if (i := 3) (v := .pointer (some ⟨k1, 64, none⟩)) (x1.getLsbD r1) rfl rfl (by generalize (x1.getLsbD r1) = gg0; cases gg0 <;> rfl) (by intro hb; have hb61 := hid (show (x1.getLsbD r1) = true from hb); intro x hx; (try simp only [hb]); (try simp only [cond_true]); go_simp; (first | done | exact rfl)) ?_
    simp only [sA, sB]
    refine lin_if (i := 4) (v := .pointer (some ⟨k1, 64 + r1, none⟩)) (x1.getLsbD r1) rfl rfl (by generalize (x1.getLsbD r1) = gg0; cases gg0 <;> rfl) (by intro hb; have hb62 := hid (show (x1.getLsbD r1) = true from hb); intro x hx; (try simp only [hb]); (try simp only [cond_true]); go_simp; first | (rw [if_pos (by omega)]; done) | (rw [if_pos (by omega)]; rfl) | (intro hq; exfalso; omega) | (simp; omega)) ?_
    simp only [sA, sB]
    refine lin_if (i := 5) (v := .bool ((ofB x0).O r1)) (x1.getLsbD r1) rfl rfl (by generalize (x1.getLsbD r1) = gg0; cases gg0 <;> rfl) (by intro hb; have hb63 := hid (show (x1.getLsbD r1) = true from hb); intro x hx; (try simp only [hb]); (try simp only [cond_true]); have f0 := hx.fn 1 (64 + r1) rfl (by omega); rw [two_hi] at f0; go_simp; (first | done | exact rfl)) ?_
    simp only [sA, sB]
    refine lin_if (i := 6) (v := .bool ((!((ofB x0).O r1)))) (x1.getLsbD r1) rfl rfl (by generalize (x1.getLsbD r1) = gg0; cases gg0 <;> rfl) (by intro hb; have hb64 := hid (show (x1.getLsbD r1) = true from hb); intro x hx; (try simp only [hb]); (try simp only [cond_true]); go_simp; (first | done | exact rfl)) ?_
    simp only [sA, sB]
    refine lv 7 (.bool ((bif x1.getLsbD r1 then (!((ofB x0).O r1)) else false))) rfl rfl (by intro x hx; (cases hq : (x1.getLsbD r1) <;> first | rfl | (simp only [hq]; rfl) | simp [hq])) ?_
    simp only [sA, sB]
    refine lm 8 27 rfl rfl rfl rfl ?_
    simp only [sA, sB]
    refine lin_if (i := 9) (v := .bool (x1.getLsbD r1)) (!(bif x1.getLsbD r1 then (!((ofB x0).O r1)) else false)) rfl rfl (by generalize (bif x1.getLsbD r1 then (!((ofB x0).O r1)) else false) = gg0; cases gg0 <;> rfl) (by intro hb; have hb65 := hid (show ((bif x1.getLsbD r1 then (!((ofB x0).O r1)) else false)) = false from nnb hb); intro x hx; (try simp only [hb]); (try simp only [cond_true]); go_simp; (first | done | exact rfl)) ?_
    simp only [sA, sB]
    refine lin_if (i := 10) (v := .bool ((!(x1.getLsbD r1)))) (!(bif x1.getLsbD r1 then (!((ofB x0).O r1)) else false)) rfl rfl (by generalize (bif x1.getLsbD r1 then (!((ofB x0).O r1)) else false) = gg0; cases gg0 <;> rfl) (by intro hb; have hb66 := hid (show ((bif x1.getLsbD r1 then (!((ofB x0).O r1)) else false)) = false from nnb hb); intro x hx; (try simp only [hb]); (try simp only [cond_true]); go_simp; (first | done | exact rfl)) ?_
    simp only [sA, sB]
    refine lin_if (i := 11) (v := .bool ((!(x1.getLsbD r1)))) (!(bif x1.getLsbD r1 then (!((ofB x0).O r1)) else false)) rfl rfl (by generalize (bif x1.getLsbD r1 then (!((ofB x0).O r1)) else false) = gg0; cases gg0 <;> rfl) (by intro hb; have hb67 := hid (show ((bif x1.getLsbD r1 then (!((ofB x0).O r1)) else false)) = false from nnb hb); intro x hx; (try simp only [hb]); (try simp only [cond_true]); go_simp; (first | done | exact rfl)) ?_
    simp only [sA, sB]
    refine lin_if (i := 12) (v := .int .i64 ((r1 : Nat) : Int)) ((!(bif x1.getLsbD r1 then (!((ofB x0).O r1)) else false)) && (!(x1.getLsbD r1))) rfl rfl (by generalize (bif x1.getLsbD r1 then (!((ofB x0).O r1)) else false) = gg0; cases gg0 <;> (generalize (!(x1.getLsbD r1)) = gg1; cases gg1) <;> rfl) (by intro hb; obtain ⟨hl1, hr1⟩ := Bool.and_eq_true_iff.1 hb; have hb68_1 := hid (show ((!(x1.getLsbD r1))) = true from hr1); have hb68_0 := hid (show ((bif x1.getLsbD r1 then (!((ofB x0).O r1)) else false)) = false from nnb hl1); intro x hx; (try simp only [hb]); (try simp only [hl1]); (try simp only [hr1]); (try simp only [cond_true]); go_simp; (first | done | exact rfl)) ?_
    simp only [sA, sB]
    refine lin_if (i := 13) (v := .pointer (some ⟨k1, 0, none⟩)) ((!(bif x1.getLsbD r1 then (!((ofB x0).O r1)) else false)) && (!(x1.getLsbD r1))) rfl rfl (by generalize (bif x1.getLsbD r1 then (!((ofB x0).O r1)) else false) = gg0; cases gg0 <;> (generalize (!(x1.getLsbD r1)) = gg1; cases gg1) <;> rfl) (by intro hb; obtain ⟨hl1, hr1⟩ := Bool.and_eq_true_iff.1 hb; have hb69_1 := hid (show ((!(x1.getLsbD r1))) = true from hr1); have hb69_0 := hid (show ((bif x1.getLsbD r1 then (!((ofB x0).O r1)) else false)) = false from nnb hl1); intro x hx; (try simp only [hb]); (try simp only [hl1]); (try simp only [hr1]); (try simp only [cond_true]); go_simp; (first | done | exact rfl)) ?_
    simp only [sA, sB]
    refine lin_if (i := 14) (v := .pointer (some ⟨k1, r1, none⟩)) ((!(bif x1.getLsbD r1 then (!((ofB x0).O r1)) else false)) && (!(x1.getLsbD r1))) rfl rfl (by generalize (bif x1.getLsbD r1 then (!((ofB x0).O r1)) else false) = gg0; cases gg0 <;> (generalize (!(x1.getLsbD r1)) = gg1; cases gg1) <;> rfl) (by intro hb; obtain ⟨hl1, hr1⟩ := Bool.and_eq_true_iff.1 hb; have hb70_1 := hid (show ((!(x1.getLsbD r1))) = true from hr1); have hb70_0 := hid (show ((bif x1.getLsbD r1 then (!((ofB x0).O r1)) else false)) = false from nnb hl1); intro x hx; (try simp only [hb]); (try simp only [hl1]); (try simp only [hr1]); (try simp only [cond_true]); go_simp; first | (rw [if_pos (by omega)]; done) | (rw [if_pos (by omega)]; rfl) | (intro hq; exfalso; omega) | (simp; omega)) ?_
    simp only [sA, sB]
    refine lin_if (i := 15) (v := .bool ((ofB x0).Z r1)) ((!(bif x1.getLsbD r1 then (!((ofB x0).O r1)) else false)) && (!(x1.getLsbD r1))) rfl rfl (by generalize (bif x1.getLsbD r1 then (!((ofB x0).O r1)) else false) = gg0; cases gg0 <;> (generalize (!(x1.getLsbD r1)) = gg1; cases gg1) <;> rfl) (by intro hb; obtain ⟨hl1, hr1⟩ := Bool.and_eq_true_iff.1 hb; have hb71_1 := hid (show ((!(x1.getLsbD r1))) = true from hr1); have hb71_0 := hid (show ((bif x1.getLsbD r1 then (!((ofB x0).O r1)) else false)) = false from nnb hl1); intro x hx; (try simp only [hb]); (try simp only [hl1]); (try simp only [hr1]); (try simp only [cond_true]); have f0 := hx.fn 1 (r1) rfl (by omega); rw [two_lo (by omega)] at f0; go_simp; (first | done | exact rfl)) ?_
    simp only [sA, sB]
    refine lin_if (i := 16) (v := .bool ((!((ofB x0).Z r1)))) ((!(bif x1.getLsbD r1 then (!((ofB x0).O r1)) else false)) && (!(x1.getLsbD r1))) rfl rfl (by generalize (bif x1.getLsbD r1 then (!((ofB x0).O r1)) else false) = gg0; cases gg0 <;> (generalize (!(x1.getLsbD r1)) = gg1; cases gg1) <;> rfl) (by intro hb; obtain ⟨hl1, hr1⟩ := Bool.and_eq_true_iff.1 hb; have hb72_1 := hid (show ((!(x1.getLsbD r1))) = true from hr1); have hb72_0 := hid (show ((bif x1.getLsbD r1 then (!((ofB x0).O r1)) else false)) = false from nnb hl1); intro x hx; (try simp only [hb]); (try simp only [hl1]); (try simp only [hr1]); (try simp only [cond_true]); go_simp; (first | done | exact rfl)) ?_
    simp only [sA, sB]
    refine lin_if (i := 17) (v := .bool ((bif (!(x1.getLsbD r1)) then (!((ofB x0).Z r1)) else false))) (!(bif x1.getLsbD r1 then (!((ofB x0).O r1)) else false)) rfl rfl (by generalize (bif x1.getLsbD r1 then (!((ofB x0).O r1)) else false) = gg0; cases gg0 <;> rfl) (by intro hb; have hb73 := hid (show ((bif x1.getLsbD r1 then (!((ofB x0).O r1)) else false)) = false from nnb hb); intro x hx; (try simp only [hb]); (try simp only [cond_true]); (cases hq : ((!(x1.getLsbD r1))) <;> first | rfl | (simp only [hq]; rfl) | simp [hq])) ?_
    simp only [sA, sB]
    refine lv 18 (.bool ((bif (bif x1.getLsbD r1 then (!((ofB x0).O r1)) else false) then true else (bif (!(x1.getLsbD r1)) then (!((ofB x0).Z r1)) else false)))) rfl rfl (by intro x hx; (cases hq : ((bif x1.getLsbD r1 then (!((ofB x0).O r1)) else false)) <;> first | rfl | (simp only [hq]; rfl) | simp [hq])) ?_
    simp only [sA, sB]
    clear HS
    refine ld fun W5 HS => ?_
    cases h1 : ((bif (bif x1.getLsbD r1 then (!((ofB x0).O r1)) else false) then true else (bif (!(x1.getLsbD r1)) then (!((ofB x0).Z r1)) else false)))
    ·replace h1 := hid h1
     go_upto_region 4 with fail
     refine lnb HS.out rfl ?_
     refine lm 0 6 rfl rfl rfl rfl ?_
     simp only [sA, sB]
     refine lv 1 (.int .i64 ((r1 + 1 : Nat) : Int)) rfl rfl (by intro x hx; go_simp; (first | done | exact addN r1 1 (by omega) | exact congrArg _ (addN r1 1 (by omega)) | (rw [addN r1 1 (by omega)]; done) | (rw [addN r1 1 (by omega)]; rfl))) ?_
     simp only [sA, sB]
     refine la 2 13 rfl rfl rfl rfl ?_
     simp only [sA, sB]
     clear HS
     refine ld fun W6 HS => ?_
     go_wp2
     exact ⟨hlt1, hid ⟨_, _, _, _, _, _, _, _, _, _, _, _, _, _, _, _, _, _, _, _, _, _, _, _, _, _, _, _, _, _, _, rfl, HS.out, all_next HP1.out (nt h1.out)⟩⟩
    ·replace h1 := hid h1
     go_upto_region 7 with fail
     refine lnb HS.out rfl ?_
     refine lv 0 (.bool false) rfl rfl (by intro x hx; go_simp; (first | done | exact rfl)) ?_
     simp only [sA, sB]
     clear HS
     refine ld fun W6 HS => ?_
     go_wp2
     exact bodyPost_ret (v := .bool false) (by simp [results, Tryd.results30, go_sem]) rfl ⟨congrArg (fun b => Ending.returned (Value.bool b)) (allTo_not (F := inF (ofB x0) x1) hlt1 (nf h1.out)).symm, HS.out.below⟩
  · have hN1 := hid (show r1 = 64 by omega)
    go_upto_region 3 with fail
    refine lnb HS.out rfl ?_
    refine lm 0 6 rfl rfl rfl rfl ?_
    simp only [sA, sB]
    refine lv 1 (.bool false) rfl rfl (by intro x hx; go_simp; (first | done | omega | (simp; omega))) ?_
    simp only [sA, sB]
    clear HS
    refine ld fun W3 HS => ?_
    go_upto_region 8 with fail
    refine lnb HS.out rfl ?_
    refine lv 0 (.bool true) rfl rfl (by intro x hx; go_simp; (first | done | exact rfl)) ?_
    simp only [sA, sB]
    clear HS
    refine ld fun W4 HS => ?_
    go_wp2
    exact bodyPost_ret (v := .bool true) (by simp [results, Tryd.results30, go_sem]) rfl ⟨congrArg (fun b => Ending.returned (Value.bool b)) (show true = allTo (inF (ofB x0) x1) 64 by rw [← hN1.out]; exact HP1.out.symm), HS.out.below⟩
set_option maxRecDepth 100000 in
set_option maxHeartbeats 1000000 in
theorem ref_Within_any (x0 : P) (x1 : P)   (w : World) :
    Calls Tryd.prog 32 #[vU x0, vU x1] w fun e w' => e = .returned (.bool (refWithin x0 x1)) ∧ Below w.heap.size w w' := by
  have hz48 := zero_48
  simp only [vU]
  go_enter Tryd.func32, Tryd.ntmps32
  have HS : Hid (St w [⟨w.heap.size, [some (.int .u64 (tn (x0.lo))), some (.int .u64 (tn (x0.hi)))], 24⟩, ⟨w.heap.size + 1, [some (.int .u64 (tn (x1.lo))), some (.int .u64 (tn (x1.hi)))], 24⟩] _) := hid (((st_nil w).alloc (k := w.heap.size) rfl [.int .u64 (tn (x0.lo)), .int .u64 (tn (x0.hi))] 24).alloc (k := w.heap.size + 1) (by simp) [.int .u64 (tn (x1.lo)), .int .u64 (tn (x1.hi))] 24)
  go_upto_region 1 with fail
  refine lnb HS.out rfl ?_
  refine lv 0 (vU x0) rfl rfl (by intro x hx; obtain ⟨f0, f1⟩ := hx.two 0 0 rfl rfl; go_simp; (first | done | exact rfl)) ?_
  simp only [sA, sB, vU]
  refine lc 1 43 #[vU x0] (.agg (fnV 128 (two 64 (ofB x0).Z (ofB x0).O)).toArray) rfl rfl (by intro x hx; exact ref_Of_any x0 _) ?_
  simp only [sA, sB]
  refine lin_new (i := 2) rfl rfl (by rfl) (fnV 128 (fun _ => false)) 48 (fun k => .pointer (some ⟨k, 0, none⟩)) ((fnV 128 (fun _ => false)).map some) (lessC_refl _) (by intro x hx; go_simp; (first | done | exact rfl)) (fun k1 => ?_)
  simp only [sA, sB, sC, sD]
  refine lin_store (i := 3) (St w [⟨w.heap.size, [some (.int .u64 (tn (x0.lo))), some (.int .u64 (tn (x0.hi)))], 24⟩, ⟨w.heap.size + 1, [some (.int .u64 (tn (x1.lo))), some (.int .u64 (tn (x1.hi)))], 24⟩, ⟨k1, ((fnV 128 (two 64 (ofB x0).Z (ofB x0).O)).map some), 48⟩]) rfl rfl (by rfl) (fun x => x.setCells k1 0 (fnV 128 (two 64 (ofB x0).Z (ofB x0).O))) (by intro x hx; exact storeF hx 2 rfl (by simp [fnV_len]) (fnV_one _ _) rfl rfl rfl (fun w => by rw [fnV_len]; kernel_rfl)) (fun x hx => hx.putF 2 _ rfl (by simp [fnV_len])) ?_
  clear HS
  refine ld fun W1 HS => ?_
  go_upto_region 2 with fail
  refine lnb HS.out rfl ?_
  refine lv 0 (vU x1) rfl rfl (by intro x hx; obtain ⟨f0, f1⟩ := hx.two 1 0 rfl rfl; go_simp; (first | done | exact rfl)) ?_
  simp only [sA, sB, vU]
  refine lc 1 43 #[vU x1] (.agg (fnV 128 (two 64 (ofB x1).Z (ofB x1).O)).toArray) rfl rfl (by intro x hx; exact ref_Of_any x1 _) ?_
  simp only [sA, sB]
  refine lin_new (i := 2) rfl rfl (by rfl) (fnV 128 (fun _ => false)) 48 (fun k => .pointer (some ⟨k, 0, none⟩)) ((fnV 128 (fun _ => false)).map some) (lessC_refl _) (by intro x hx; go_simp; (first | done | exact rfl)) (fun k2 => ?_)
  simp only [sA, sB, sC, sD]
  refine lin_store (i := 3) (St w [⟨w.heap.size, [some (.int .u64 (tn (x0.lo))), some (.int .u64 (tn (x0.hi)))], 24⟩, ⟨w.heap.size + 1, [some (.int .u64 (tn (x1.lo))), some (.int .u64 (tn (x1.hi)))], 24⟩, ⟨k1, ((fnV 128 (two 64 (ofB x0).Z (ofB x0).O)).map some), 48⟩, ⟨k2, ((fnV 128 (two 64 (ofB x1).Z (ofB x1).O)).map some), 48⟩]) rfl rfl (by rfl) (fun x => x.setCells k2 0 (fnV 128 (two 64 (ofB x1).Z (ofB x1).O))) (by intro x hx; exact storeF hx 3 rfl (by simp [fnV_len]) (fnV_one _ _) rfl rfl rfl (fun w => by rw [fnV_len]; kernel_rfl)) (fun x hx => hx.putF 3 _ rfl (by simp [fnV_len])) ?_
  clear HS
  refine ld fun W2 HS => ?_
  go_upto_region 3 with fail
  refine lnb HS.out rfl ?_
  refine lv 0 (.int .i64 0) rfl rfl (by intro x hx; go_simp; (first | done | exact rfl)) ?_
  simp only [sA, sB]
  clear HS
  refine ld fun W3 HS => ?_
  go_wp2
  refine loop_up 64 (fun k a W => Hid (∃ u1_4 u1_12 u1_13 u1_14 u1_15 u1_16 u1_17 u1_18 u1_19 u1_20 u1_21 u1_22 u1_23 u1_24 u1_25 u1_26 u1_27 u1_28 u1_29 u1_30 u1_31 u1_32 u1_33 u1_34 u1_35 u1_36 u1_37 u1_38 u1_39 : Value, a = Act.mk [vU x0, vU x1, .pointer (some ⟨w.heap.size, 0, none⟩), .pointer (some ⟨w.heap.size + 1, 0, none⟩), u1_4, .pointer (some ⟨k1, 0, none⟩), .pointer (some ⟨k2, 0, none⟩), .int .i64 ((k : Nat) : Int), vU x0, .agg (fnV 128 (two 64 (ofB x0).Z (ofB x0).O)).toArray, vU x1, .agg (fnV 128 (two 64 (ofB x1).Z (ofB x1).O)).toArray, u1_12, u1_13, u1_14, u1_15, u1_16, u1_17, u1_18, u1_19, u1_20, u1_21, u1_22, u1_23, u1_24, u1_25, u1_26, u1_27, u1_28, u1_29, u1_30, u1_31, u1_32, u1_33, u1_34, u1_35, u1_36, u1_37, u1_38, u1_39].toArray [] ∧ St w [⟨w.heap.size, [some (.int .u64 (tn (x0.lo))), some (.int .u64 (tn (x0.hi)))], 24⟩, ⟨w.heap.size + 1, [some (.int .u64 (tn (x1.lo))), some (.int .u64 (tn (x1.hi)))], 24⟩, ⟨k1, ((fnV 128 (two 64 (ofB x0).Z (ofB x0).O)).map some), 48⟩, ⟨k2, ((fnV 128 (two 64 (ofB x1).Z (ofB x1).O)).map some), 48⟩] W ∧ allTo (withinF (ofB x0) (ofB x1)) k = true)) (hid ⟨(.bool false), (undef), (undef), (undef), (undef), (undef), (undef), (undef), (undef), (undef), (undef), (undef), (undef), (undef), (undef), (undef), (undef), (undef), (undef), (undef), (undef), (undef), (undef), (undef), (undef), (undef), (undef), (undef), (undef), rfl, HS.out, rfl⟩) (fun r1 a W hr hR => ?_)
  obtain ⟨u1_4, u1_12, u1_13, u1_14, u1_15, u1_16, u1_17, u1_18, u1_19, u1_20, u1_21, u1_22, u1_23, u1_24, u1_25, u1_26, u1_27, u1_28, u1_29, u1_30, u1_31, u1_32, u1_33, u1_34, u1_35, u1_36, u1_37, u1_38, u1_39, rfl, hS, hP⟩ := hR.out
  replace HS := hid hS
  have HP1 := hid hP
  clear hP
  clear hS hR
  by_cases hlt1 : r1 < 64
  · -- round
    go_upto_region 4 with fail
    refine lnb HS.out rfl ?_
    refine lm 0 7 rfl rfl rfl rfl ?_
    simp only [sA, sB]
    refine lv 1 (.bool true) rfl rfl (by intro x hx; go_simp; (first | done | omega | (simp; omega))) ?_
    simp only [sA, sB]
    clear HS
    refine ld fun W4 HS => ?_
    go_upto_region 6 with fail
    refine lnb HS.out rfl ?_
    refine lm 0 7 rfl rfl rfl rfl ?_
    simp only [sA, sB]
    refine lv 1 (.pointer (some ⟨k1, 0, none⟩)) rfl rfl (by intro x hx; go_simp; (first | done | exact rfl)) ?_
    simp only [sA, sB]
    refine lv 2 (.pointer (some ⟨k1, r1, none⟩)) rfl rfl (by intro x hx; go_simp; first | (rw [if_pos (by omega)]; done) | (rw [if_pos (by omega)]; rfl) | (intro hq; exfalso; omega) | (simp; omega)) ?_
    simp only [sA, sB]
    refine lv 3 (.bool ((ofB x0).Z r1)) rfl rfl (by intro x hx; have f0 := hx.fn 2 (r1) rfl (by omega); rw [two_lo (by omega)] at f0; go_simp; (first | done | exact rfl)) ?_
    simp only [sA, sB]
    refine lm 4 19 rfl rfl rfl rfl ?_
    simp only [sA, sB]
    refine lin_if (i := 5) (v := .int .i64 ((r1 : Nat) : Int)) ((ofB x0).Z r1) rfl rfl (by generalize ((ofB x0).Z r1) = gg0; cases gg0 <;> rfl) (by intro hb; have hb74 := hid (show ((ofB x0).Z r1) = true from hb); intro x hx; (try simp only [hb]); (try simp only [cond_true]); go_simp; (first | done | exact rfl)) ?_
    simp only [sA, sB]
    refine lin_if (i := 6) (v := .pointer (some ⟨k2, 0, none⟩)) ((ofB x0).Z r1) rfl rfl (by generalize ((ofB x0).Z r1) = gg0; cases gg0 <;> rfl) (by intro hb; have hb75 := hid (show ((ofB x0).Z r1) = true from hb); intro x hx; (try simp only [hb]); (try simp only [cond_true]); go_simp; (first | done | exact rfl)) ?_
    simp only [sA, sB]
    refine lin_if (i := 7) (v := .pointer (some ⟨k2, r1, none⟩)) ((ofB x0).Z r1) rfl rfl (by generalize ((ofB x0).Z r1) = gg0; cases gg0 <;> rfl) (by intro hb; have hb76 := hid (show ((ofB x0).Z r1) = true from hb); intro x hx; (try simp only [hb]); (try simp only [cond_true]); go_simp; first | (rw [if_pos (by omega)]; done) | (rw [if_pos (by omega)]; rfl) | (intro hq; exfalso; omega) | (simp; omega)) ?_
    simp only [sA, sB]
    refine lin_if (i := 8) (v := .bool ((ofB x1).Z r1)) ((ofB x0).Z r1) rfl rfl (by generalize ((ofB x0).Z r1) = gg0; cases gg0 <;> rfl) (by intro hb; have hb77 := hid (show ((ofB x0).Z r1) = true from hb); intro x hx; (try simp only [hb]); (try simp only [cond_true]); have f0 := hx.fn 3 (r1) rfl (by omega); rw [two_lo (by omega)] at f0; go_simp; (first | done | exact rfl)) ?_
    simp only [sA, sB]
    refine lin_if (i := 9) (v := .bool ((!((ofB x1).Z r1)))) ((ofB x0).Z r1) rfl rfl (by generalize ((ofB x0).Z r1) = gg0; cases gg0 <;> rfl) (by intro hb; have hb78 := hid (show ((ofB x0).Z r1) = true from hb); intro x hx; (try simp only [hb]); (try simp only [cond_true]); go_simp; (first | done | exact rfl)) ?_
    simp only [sA, sB]
    refine lv 10 (.bool ((bif (ofB x0).Z r1 then (!((ofB x1).Z r1)) else false))) rfl rfl (by intro x hx; (cases hq : ((ofB x0).Z r1) <;> first | rfl | (simp only [hq]; rfl) | simp [hq])) ?_
    simp only [sA, sB]
    refine lm 11 26 rfl rfl rfl rfl ?_
    simp only [sA, sB]
    refine lin_if (i := 12) (v := .int .i64 ((r1 : Nat) : Int)) (!(bif (ofB x0).Z r1 then (!((ofB x1).Z r1)) else false)) rfl rfl (by generalize (bif (ofB x0).Z r1 then (!((ofB x1).Z r1)) else false) = gg0; cases gg0 <;> rfl) (by intro hb; have hb79 := hid (show ((bif (ofB x0).Z r1 then (!((ofB x1).Z r1)) else false)) = false from nnb hb); intro x hx; (try simp only [hb]); (try simp only [cond_true]); go_simp; (first | done | exact rfl)) ?_
    simp only [sA, sB]
    refine lin_if (i := 13) (v := .pointer (some ⟨k1, 64, none⟩)) (!(bif (ofB x0).Z r1 then (!((ofB x1).Z r1)) else false)) rfl rfl (by generalize (bif (ofB x0).Z r1 then (!((ofB x1).Z r1)) else false) = gg0; cases gg0 <;> rfl) (by intro hb; have hb80 := hid (show ((bif (ofB x0).Z r1 then (!((ofB x1).Z r1)) else false)) = false from nnb hb); intro x hx; (try simp only [hb]); (try simp only [cond_true]); go_simp; (first | done | exact rfl)) ?_
    simp only [sA, sB]
    refine lin_if (i := 14) (v := .pointer (some ⟨k1, 64 + r1, none⟩)) (!(bif (ofB x0).Z r1 then (!((ofB x1).Z r1)) else false)) rfl rfl (by generalize (bif (ofB x0).Z r1 then (!((ofB x1).Z r1)) else false) = gg0; cases gg0 <;> rfl) (by intro hb; have hb81 := hid (show ((bif (ofB x0).Z r1 then (!((ofB x1).Z r1)) else false)) = false from nnb hb); intro x hx; (try simp only [hb]); (try simp only [cond_true]); go_simp; first | (rw [if_pos (by omega)]; done) | (rw [if_pos (by omega)]; rfl) | (intro hq; exfalso; omega) | (simp; omega)) ?_
    simp only [sA, sB]
    refine lin_if (i := 15) (v := .bool ((ofB x0).O r1)) (!(bif (ofB x0).Z r1 then (!((ofB x1).Z r1)) else false)) rfl rfl (by generalize (bif (ofB x0).Z r1 then (!((ofB x1).Z r1)) else false) = gg0; cases gg0 <;> rfl) (by intro hb; have hb82 := hid (show ((bif (ofB x0).Z r1 then (!((ofB x1).Z r1)) else false)) = false from nnb hb); intro x hx; (try simp only [hb]); (try simp only [cond_true]); have f0 := hx.fn 2 (64 + r1) rfl (by omega); rw [two_hi] at f0; go_simp; (first | done | exact rfl)) ?_
    simp only [sA, sB]
    refine lin_if (i := 16) (v := .bool ((ofB x0).O r1)) (!(bif (ofB x0).Z r1 then (!((ofB x1).Z r1)) else false)) rfl rfl (by generalize (bif (ofB x0).Z r1 then (!((ofB x1).Z r1)) else false) = gg0; cases gg0 <;> rfl) (by intro hb; have hb83 := hid (show ((bif (ofB x0).Z r1 then (!((ofB x1).Z r1)) else false)) = false from nnb hb); intro x hx; (try simp only [hb]); (try simp only [cond_true]); go_simp; (first | done | exact rfl)) ?_
    simp only [sA, sB]
    refine lin_if (i := 17) (v := .int .i64 ((r1 : Nat) : Int)) ((!(bif (ofB x0).Z r1 then (!((ofB x1).Z r1)) else false)) && ((ofB x0).O r1)) rfl rfl (by generalize (bif (ofB x0).Z r1 then (!((ofB x1).Z r1)) else false) = gg0; cases gg0 <;> (generalize ((ofB x0).O r1) = gg1; cases gg1) <;> rfl) (by intro hb; obtain ⟨hl1, hr1⟩ := Bool.and_eq_true_iff.1 hb; have hb84_1 := hid (show ((ofB x0).O r1) = true from hr1); have hb84_0 := hid (show ((bif (ofB x0).Z r1 then (!((ofB x1).Z r1)) else false)) = false from nnb hl1); intro x hx; (try simp only [hb]); (try simp only [hl1]); (try simp only [hr1]); (try simp only [cond_true]); go_simp; (first | done | exact rfl)) ?_
    simp only [sA, sB]
    refine lin_if (i := 18) (v := .pointer (some ⟨k2, 64, none⟩)) ((!(bif (ofB x0).Z r1 then (!((ofB x1).Z r1)) else false)) && ((ofB x0).O r1)) rfl rfl (by generalize (bif (ofB x0).Z r1 then (!((ofB x1).Z r1)) else false) = gg0; cases gg0 <;> (generalize ((ofB x0).O r1) = gg1; cases gg1) <;> rfl) (by intro hb; obtain ⟨hl1, hr1⟩ := Bool.and_eq_true_iff.1 hb; have hb85_1 := hid (show ((ofB x0).O r1) = true from hr1); have hb85_0 := hid (show ((bif (ofB x0).Z r1 then (!((ofB x1).Z r1)) else false)) = false from nnb hl1); intro x hx; (try simp only [hb]); (try simp only [hl1]); (try simp only [hr1]); (try simp only [cond_true]); go_simp; (first | done | exact rfl)) ?_
    simp only [sA, sB]
    refine lin_if (i := 19) (v := .pointer (some ⟨k2, 64 + r1, none⟩)) ((!(bif (ofB x0).Z r1 then (!((ofB x1).Z r1)) else false)) && ((ofB x0).O r1)) rfl rfl (by generalize (bif (ofB x0).Z r1 then (!((ofB x1).Z r1)) else false) = gg0; cases gg0 <;> (generalize ((ofB x0).O r1) = gg1; cases gg1) <;> rfl) (by intro hb; obtain ⟨hl1, hr1⟩ := Bool.and_eq_true_iff.1 hb; have hb86_1 := hid (show ((ofB x0).O r1) = true from hr1); have hb86_0 := hid (show ((bif (ofB x0).Z r1 then (!((ofB x1).Z r1)) else false)) = false from nnb hl1); intro x hx; (try simp only [hb]); (try simp only [hl1]); (try simp only [hr1]); (try simp only [cond_true]); go_simp; first | (rw [if_pos (by omega)]; done) | (rw [if_pos (by omega)]; rfl) | (intro hq; exfalso; omega) | (simp; omega)) ?_
    simp only [sA, sB]
    refine lin_if (i := 20) (v := .bool ((ofB x1).O r1)) ((!(bif (ofB x0).Z r1 then (!((ofB x1).Z r1)) else false)) && ((ofB x0).O r1)) rfl rfl (by generalize (bif (ofB x0).Z r1 then (!((ofB x1).Z r1)) else false) = gg0; cases gg0 <;> (generalize ((ofB x0).O r1) = gg1; cases gg1) <;> rfl) (by intro hb; obtain ⟨hl1, hr1⟩ := Bool.and_eq_true_iff.1 hb; have hb87_1 := hid (show ((ofB x0).O r1) = true from hr1); have hb87_0 := hid (show ((bif (ofB x0).Z r1 then (!((ofB x1).Z r1)) else false)) = false from nnb hl1); intro x hx; (try simp only [hb]); (try simp only [hl1]); (try simp only [hr1]); (try simp only [cond_true]); have f0 := hx.fn 3 (64 + r1) rfl (by omega); rw [two_hi] at f0; go_simp; (first | done | exact rfl)) ?_
    simp only [sA, sB]
    refine lin_if (i := 21) (v := .bool ((!((ofB x1).O r1)))) ((!(bif (ofB x0).Z r1 then (!((ofB x1).Z r1)) else false)) && ((ofB x0).O r1)) rfl rfl (by generalize (bif (ofB x0).Z r1 then (!((ofB x1).Z r1)) else false) = gg0; cases gg0 <;> (generalize ((ofB x0).O r1) = gg1; cases gg1) <;> rfl) (by intro hb; obtain ⟨hl1, hr1⟩ := Bool.and_eq_true_iff.1 hb; have hb88_1 := hid (show ((ofB x0).O r1) = true from hr1); have hb88_0 := hid (show ((bif (ofB x0).Z r1 then (!((ofB x1).Z r1)) else false)) = false from nnb hl1); intro x hx; (try simp only [hb]); (try simp only [hl1]); (try simp only [hr1]); (try simp only [cond_true]); go_simp; (first | done | exact rfl)) ?_
    simp only [sA, sB]
    refine lin_if (i := 22) (v := .bool ((bif (ofB x0).O r1 then (!((ofB x1).O r1)) else false))) (!(bif (ofB x0).Z r1 then (!((ofB x1).Z r1)) else false)) rfl rfl (by generalize (bif (ofB x0).Z r1 then (!((ofB x1).Z r1)) else false) = gg0; cases gg0 <;> rfl) (by intro hb; have hb89 := hid (show ((bif (ofB x0).Z r1 then (!((ofB x1).Z r1)) else false)) = false from nnb hb); intro x hx; (try simp only [hb]); (try simp only [cond_true]); (cases hq : ((ofB x0).O r1) <;> first | rfl | (simp only [hq]; rfl) | simp [hq])) ?_
    simp only [sA, sB]
    refine lv 23 (.bool ((bif (bif (ofB x0).Z r1 then (!((ofB x1).Z r1)) else false) then true else (bif (ofB x0).O r1 then (!((ofB x1).O r1)) else false)))) rfl rfl (by intro x hx; (cases hq : ((bif (ofB x0).Z r1 then (!((ofB x1).Z r1)) else false)) <;> first | rfl | (simp only [hq]; rfl) | simp [hq])) ?_
    simp only [sA, sB]
    clear HS
    refine ld fun W5 HS => ?_
    cases h1 : ((bif (bif (ofB x0).Z r1 then (!((ofB x1).Z r1)) else false) then true else (bif (ofB x0).O r1 then (!((ofB x1).O r1)) else false)))
    ·replace h1 := hid h1
     go_upto_region 5 with fail
     refine lnb HS.out rfl ?_
     refine lm 0 7 rfl rfl rfl rfl ?_
     simp only [sA, sB]
     refine lv 1 (.int .i64 ((r1 + 1 : Nat) : Int)) rfl rfl (by intro x hx; go_simp; (first | done | exact addN r1 1 (by omega) | exact congrArg _ (addN r1 1 (by omega)) | (rw [addN r1 1 (by omega)]; done) | (rw [addN r1 1 (by omega)]; rfl))) ?_
     simp only [sA, sB]
     refine la 2 15 rfl rfl rfl rfl ?_
     simp only [sA, sB]
     clear HS
     refine ld fun W6 HS => ?_
     go_wp2
     exact ⟨hlt1, hid ⟨_, _, _, _, _, _, _, _, _, _, _, _, _, _, _, _, _, _, _, _, _, _, _, _, _, _, _, _, _, rfl, HS.out, all_next HP1.out (nt h1.out)⟩⟩
    ·replace h1 := hid h1
     go_upto_region 7 with fail
     refine lnb HS.out rfl ?_
     refine lv 0 (.bool false) rfl rfl (by intro x hx; go_simp; (first | done | exact rfl)) ?_
     simp only [sA, sB]
     clear HS
     refine ld fun W6 HS => ?_
     go_wp2
     exact bodyPost_ret (v := .bool false) (by simp [results, Tryd.results32, go_sem]) rfl ⟨congrArg (fun b => Ending.returned (Value.bool b)) (allTo_not (F := withinF (ofB x0) (ofB x1)) hlt1 (nf h1.out)).symm, HS.out.below⟩
  · have hN1 := hid (show r1 = 64 by omega)
    go_upto_region 4 with fail
    refine lnb HS.out rfl ?_
    refine lm 0 7 rfl rfl rfl rfl ?_
    simp only [sA, sB]
    refine lv 1 (.bool false) rfl rfl (by intro x hx; go_simp; (first | done | omega | (simp; omega))) ?_
    simp only [sA, sB]
    clear HS
    refine ld fun W4 HS => ?_
    go_upto_region 8 with fail
    refine lnb HS.out rfl ?_
    refine lv 0 (.bool true) rfl rfl (by intro x hx; go_simp; (first | done | exact rfl)) ?_
    simp only [sA, sB]
    clear HS
    refine ld fun W5 HS => ?_
    go_wp2
    exact bodyPost_ret (v := .bool true) (by simp [results, Tryd.results32, go_sem]) rfl ⟨congrArg (fun b => Ending.returned (Value.bool b)) (show true = allTo (withinF (ofB x0) (ofB x1)) 64 by rw [← hN1.out]; exact HP1.out.symm), HS.out.below⟩
end Go.Proofs.YtpbhfpogbndljaaDoor.Rt
