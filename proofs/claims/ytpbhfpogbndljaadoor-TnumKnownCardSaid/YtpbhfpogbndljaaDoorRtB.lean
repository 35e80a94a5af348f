/-
  The document's tnum of bits; bit by bit.
-/
import Derived.Deep.DeepCutAuto
import Derived.Test.YtpbhfpogbndljaaDoorRtA
namespace Go.Proofs.YtpbhfpogbndljaaDoor.Rt
open Go.RowKit Go.Proofs.YtpbhfpogbndljaaDoor.Num Go.Proofs.YtpbhfpogbndljaaDoor.Up
def mB (b : BB) : Nat → BitVec 64
  | 0 => 0#64
  | k + 1 => bif (bif b.Z k then b.O k else false) then mB b k + (1#64 <<< (BitVec.ofNat 64 k).toNat) else mB b k
def vB (b : BB) : Nat → BitVec 64
  | 0 => 0#64
  | k + 1 => bif (bif b.Z k then b.O k else false) then vB b k else bif b.O k then vB b k + (1#64 <<< (BitVec.ofNat 64 k).toNat) else vB b k
def tnumB (b : BB) : P := P.mk (vB b 64) (mB b 64)
theorem tnumB_is (b : BB) : tnumB b = P.mk (vB b 64) (mB b 64) := rfl
set_option maxRecDepth 100000 in
set_option maxHeartbeats 1000000 in
theorem ref_Tnum_any (x0 : BB)   (w : World) :
    Calls Tryd.prog 44 #[.agg (fnV 128 (two 64 x0.Z x0.O)).toArray] w fun e w' => e = .returned (vU (tnumB x0)) ∧ Below w.heap.size w w' := by
  simp only [vU]
  go_enter Tryd.func44, Tryd.ntmps44
  have HS : Hid (St w [⟨w.heap.size, ((fnV 128 (two 64 x0.Z x0.O)).map some), 48⟩, ⟨w.heap.size + 1, [some (.int .u64 0), some (.int .u64 0)], 24⟩] _) := hid (((st_nil w).alloc (k := w.heap.size) rfl (fnV 128 (two 64 x0.Z x0.O)) 48).alloc (k := w.heap.size + 1) (by simp) [.int .u64 0, .int .u64 0] 24)
  go_upto_region 1 with fail
  refine lnb HS.out rfl ?_
  refine lin_new (i := 0) rfl rfl (by rfl) [.int .u64 0, .int .u64 0] 24 (fun k => .pointer (some ⟨k, 0, none⟩)) [some (.int .u64 0), some (.int .u64 0)] (lessC_refl _) (by intro x hx; go_simp; (first | done | exact rfl)) (fun k1 => ?_)
  simp only [sA, sB, sC, sD]
  clear HS
  refine ld fun W1 HS => ?_
  go_upto_region 2 with fail
  refine lnb HS.out rfl ?_
  refine lv 0 (.int .i64 0) rfl rfl (by intro x hx; go_simp; (first | done | exact rfl)) ?_
  simp only [sA, sB]
  clear HS
  refine ld fun W2 HS => ?_
  go_wp2
  refine loop_up 64 (fun k a W => Hid (∃ u1_5 u1_6 u1_7 u1_8 u1_9 u1_10 u1_11 u1_12 u1_13 u1_14 u1_15 u1_16 u1_17 u1_18 u1_19 u1_20 u1_21 u1_22 u1_23 u1_24 u1_25 u1_26 u1_27 u1_28 u1_29 u1_30 u1_31 u1_32 u1_33 u1_34 u1_35 u1_36 : Value, a = Act.mk [.agg (fnV 128 (two 64 x0.Z x0.O)).toArray, .pointer (some ⟨w.heap.size, 0, none⟩), .pointer (some ⟨w.heap.size + 1, 0, none⟩), .pointer (some ⟨k1, 0, none⟩), .int .i64 ((k : Nat) : Int), u1_5, u1_6, u1_7, u1_8, u1_9, u1_10, u1_11, u1_12, u1_13, u1_14, u1_15, u1_16, u1_17, u1_18, u1_19, u1_20, u1_21, u1_22, u1_23, u1_24, u1_25, u1_26, u1_27, u1_28, u1_29, u1_30, u1_31, u1_32, u1_33, u1_34, u1_35, u1_36, undef].toArray [] ∧ St w [⟨w.heap.size, ((fnV 128 (two 64 x0.Z x0.O)).map some), 48⟩, ⟨w.heap.size + 1, [some (.int .u64 0), some (.int .u64 0)], 24⟩, ⟨k1, [some (.int .u64 (tn (vB x0 k))), some (.int .u64 (tn (mB x0 k)))], 24⟩] W)) (hid ⟨(undef), (undef), (undef), (undef), (undef), (undef), (undef), (undef), (undef), (undef), (undef), (undef), (undef), (undef), (undef), (undef), (undef), (undef), (undef), (undef), (undef), (undef), (undef), (undef), (undef), (undef), (undef), (undef), (undef), (undef), (undef), (undef), rfl, HS.out⟩) (fun r1 a W hr hR => ?_)
  obtain ⟨u1_5, u1_6, u1_7, u1_8, u1_9, u1_10, u1_11, u1_12, u1_13, u1_14, u1_15, u1_16, u1_17, u1_18, u1_19, u1_20, u1_21, u1_22, u1_23, u1_24, u1_25, u1_26, u1_27, u1_28, u1_29, u1_30, u1_31, u1_32, u1_33, u1_34, u1_35, u1_36, rfl, hS⟩ := hR.out
  replace HS := hid hS
  clear hS hR
  by_cases hlt1 : r1 < 64
  · -- round
    go_upto_region 3 with fail
    refine lnb HS.out rfl ?_
    refine lm 0 4 rfl rfl rfl rfl ?_
    simp only [sA, sB]
    refine lv 1 (.bool true) rfl rfl (by intro x hx; go_simp; (first | done | omega | (simp; omega))) ?_
    simp only [sA, sB]
    clear HS
    refine ld fun W3 HS => ?_
    go_upto_region 5 with fail
    refine lnb HS.out rfl ?_
    refine lm 0 4 rfl rfl rfl rfl ?_
    simp only [sA, sB]
    refine lv 1 (.pointer (some ⟨w.heap.size, 0, none⟩)) rfl rfl (by intro x hx; go_simp; (first | done | exact rfl)) ?_
    simp only [sA, sB]
    refine lv 2 (.pointer (some ⟨w.heap.size, r1, none⟩)) rfl rfl (by intro x hx; go_simp; first | (rw [if_pos (by omega)]; done) | (rw [if_pos (by omega)]; rfl) | (intro hq; exfalso; omega) | (simp; omega)) ?_
    simp only [sA, sB]
    refine lv 3 (.bool (x0.Z r1)) rfl rfl (by intro x hx; have f0 := hx.fn 0 (r1) rfl (by omega); rw [two_lo (by omega)] at f0; go_simp; (first | done | exact rfl)) ?_
    simp only [sA, sB]
    refine lm 4 12 rfl rfl rfl rfl ?_
    simp only [sA, sB]
    refine lin_if (i := 5) (v := .int .i64 ((r1 : Nat) : Int)) (x0.Z r1) rfl rfl (by generalize (x0.Z r1) = gg0; cases gg0 <;> rfl) (by intro hb; have hb4 := hid (show (x0.Z r1) = true from hb); intro x hx; (try simp only [hb]); (try simp only [cond_true]); go_simp; (first | done | exact rfl)) ?_
    simp only [sA, sB]
    refine lin_if (i := 6) (v := .pointer (some ⟨w.heap.size, 64, none⟩)) (x0.Z r1) rfl rfl (by generalize (x0.Z r1) = gg0; cases gg0 <;> rfl) (by intro hb; have hb5 := hid (show (x0.Z r1) = true from hb); intro x hx; (try simp only [hb]); (try simp only [cond_true]); go_simp; (first | done | exact rfl)) ?_
    simp only [sA, sB]
    refine lin_if (i := 7) (v := .pointer (some ⟨w.heap.size, 64 + r1, none⟩)) (x0.Z r1) rfl rfl (by generalize (x0.Z r1) = gg0; cases gg0 <;> rfl) (by intro hb; have hb6 := hid (show (x0.Z r1) = true from hb); intro x hx; (try simp only [hb]); (try simp only [cond_true]); go_simp; first | (rw [if_pos (by omega)]; done) | (rw [if_pos (by omega)]; rfl) | (intro hq; exfalso; omega) | (simp; omega)) ?_
    simp only [sA, sB]
    refine lin_if (i := 8) (v := .bool (x0.O r1)) (x0.Z r1) rfl rfl (by generalize (x0.Z r1) = gg0; cases gg0 <;> rfl) (by intro hb; have hb7 := hid (show (x0.Z r1) = true from hb); intro x hx; (try simp only [hb]); (try simp only [cond_true]); have f0 := hx.fn 0 (64 + r1) rfl (by omega); rw [two_hi] at f0; go_simp; (first | done | exact rfl)) ?_
    simp only [sA, sB]
    refine lv 9 (.bool ((bif x0.Z r1 then x0.O r1 else false))) rfl rfl (by intro x hx; (cases hq : (x0.Z r1) <;> first | rfl | (simp only [hq]; rfl) | simp [hq])) ?_
    simp only [sA, sB]
    clear HS
    refine ld fun W4 HS => ?_
    cases h1 : ((bif x0.Z r1 then x0.O r1 else false))
    ·replace h1 := hid h1
     go_upto_region 7 with fail
     refine lnb HS.out rfl ?_
     refine lm 0 4 rfl rfl rfl rfl ?_
     simp only [sA, sB]
     refine lv 1 (.pointer (some ⟨w.heap.size, 64, none⟩)) rfl rfl (by intro x hx; go_simp; (first | done | exact rfl)) ?_
     simp only [sA, sB]
     refine lv 2 (.pointer (some ⟨w.heap.size, 64 + r1, none⟩)) rfl rfl (by intro x hx; go_simp; first | (rw [if_pos (by omega)]; done) | (rw [if_pos (by omega)]; rfl) | (intro hq; exfalso; omega) | (simp; omega)) ?_
     simp only [sA, sB]
     refine lv 3 (.bool (x0.O r1)) rfl rfl (by intro x hx; have f0 := hx.fn 0 (64 + r1) rfl (by omega); rw [two_hi] at f0; go_simp; (first | done | exact rfl)) ?_
     simp only [sA, sB]
     clear HS
     refine ld fun W5 HS => ?_
     cases h2 : (x0.O r1)
     ·replace h2 := hid h2
      go_upto_region 4 with fail
      refine lnb HS.out rfl ?_
      refine lm 0 4 rfl rfl rfl rfl ?_
      simp only [sA, sB]
      refine lv 1 (.int .i64 ((r1 + 1 : Nat) : Int)) rfl rfl (by intro x hx; go_simp; (first | done | exact addN r1 1 (by omega) | exact congrArg _ (addN r1 1 (by omega)) | (rw [addN r1 1 (by omega)]; done) | (rw [addN r1 1 (by omega)]; rfl))) ?_
      simp only [sA, sB]
      refine la 2 8 rfl rfl rfl rfl ?_
      simp only [sA, sB]
      clear HS
      refine ld fun W6 HS => ?_
      go_wp2
      exact ⟨hlt1, hid ⟨_, _, _, _, _, _, _, _, _, _, _, _, _, _, _, _, _, _, _, _, _, _, _, _, _, _, _, _, _, _, _, _, rfl, (by simp only [vB, mB]; simp only [h1.out, cond_false]; simp only [h2.out, cond_false]; exact HS.out)⟩⟩
     ·replace h2 := hid h2
      go_upto_region 8 with fail
      refine lnb HS.out rfl ?_
      refine lv 0 (.pointer (some ⟨k1, 0, none⟩)) rfl rfl (by intro x hx; go_simp; (first | done | exact rfl)) ?_
      simp only [sA, sB]
      refine lv 1 (.int .u64 (tn (vB x0 r1))) rfl rfl (by intro x hx; have f0 := hx.load 2 0 rfl rfl; go_simp; (first | done | exact rfl)) ?_
      simp only [sA, sB]
      refine lm 2 4 rfl rfl rfl rfl ?_
      simp only [sA, sB]
      refine lv 3 (.int .u64 (tn (BitVec.ofNat 64 r1))) rfl rfl (by intro x hx; go_simp; (first | done | exact toU r1 | exact congrArg _ (toU r1) | (rw [toU r1]; done) | (rw [toU r1]; rfl))) ?_
      simp only [sA, sB]
      refine lv 4 (.int .u64 (tn (1#64 <<< (BitVec.ofNat 64 r1).toNat))) rfl rfl (by intro x hx; have hy := tn_lo (BitVec.ofNat 64 r1); go_simp; (first | done | exact shl1U (BitVec.ofNat 64 r1) hy | exact shlUUr 1#64 (BitVec.ofNat 64 r1) hy | exact shlUU 1#64 (BitVec.ofNat 64 r1) hy | exact congrArg _ (shlUU 1#64 (BitVec.ofNat 64 r1) hy) | (rw [shlUU 1#64 (BitVec.ofNat 64 r1) hy]; done) | (rw [shlUU 1#64 (BitVec.ofNat 64 r1) hy]; rfl))) ?_
      simp only [sA, sB]
      refine lv 5 (.int .u64 (tn ((vB x0 r1) + (1#64 <<< (BitVec.ofNat 64 r1).toNat)))) rfl rfl (by intro x hx; go_simp; (first | done | exact addUT (vB x0 r1) (1#64 <<< (BitVec.ofNat 64 r1).toNat) | exact congrArg _ (addUT (vB x0 r1) (1#64 <<< (BitVec.ofNat 64 r1).toNat)) | (rw [addUT (vB x0 r1) (1#64 <<< (BitVec.ofNat 64 r1).toNat)]; done) | (rw [addUT (vB x0 r1) (1#64 <<< (BitVec.ofNat 64 r1).toNat)]; rfl))) ?_
      simp only [sA, sB]
      refine lv 6 (.pointer (some ⟨k1, 0, none⟩)) rfl rfl (by intro x hx; go_simp; (first | done | exact rfl)) ?_
      simp only [sA, sB]
      refine ls 7 2 0 [.int .u64 (tn ((vB x0 r1) + (1#64 <<< (BitVec.ofNat 64 r1).toNat)))] rfl rfl rfl (by intro x hx; obtain ⟨_, z0, q0⟩ := hx.at1 2 0 rfl; go_simp; (first | done | rfl)) ?_
      simp only [Blk.putC, setM, sA, sB]
      clear HS
      refine ld fun W6 HS => ?_
      go_upto_region 4 with fail
      refine lnb HS.out rfl ?_
      refine lm 0 4 rfl rfl rfl rfl ?_
      simp only [sA, sB]
      refine lv 1 (.int .i64 ((r1 + 1 : Nat) : Int)) rfl rfl (by intro x hx; go_simp; (first | done | exact addN r1 1 (by omega) | exact congrArg _ (addN r1 1 (by omega)) | (rw [addN r1 1 (by omega)]; done) | (rw [addN r1 1 (by omega)]; rfl))) ?_
      simp only [sA, sB]
      refine la 2 8 rfl rfl rfl rfl ?_
      simp only [sA, sB]
      clear HS
      refine ld fun W7 HS => ?_
      go_wp2
      exact ⟨hlt1, hid ⟨_, _, _, _, _, _, _, _, _, _, _, _, _, _, _, _, _, _, _, _, _, _, _, _, _, _, _, _, _, _, _, _, rfl, (by simp only [vB, mB]; simp only [h1.out, cond_false]; simp only [h2.out, cond_true]; exact HS.out)⟩⟩
    ·replace h1 := hid h1
     go_upto_region 6 with fail
     refine lnb HS.out rfl ?_
     refine lv 0 (.pointer (some ⟨k1, 1, none⟩)) rfl rfl (by intro x hx; go_simp; (first | done | exact rfl)) ?_
     simp only [sA, sB]
     refine lv 1 (.int .u64 (tn (mB x0 r1))) rfl rfl (by intro x hx; have f0 := hx.load 2 1 rfl rfl; go_simp; (first | done | exact rfl)) ?_
     simp only [sA, sB]
     refine lm 2 4 rfl rfl rfl rfl ?_
     simp only [sA, sB]
     refine lv 3 (.int .u64 (tn (BitVec.ofNat 64 r1))) rfl rfl (by intro x hx; go_simp; (first | done | exact toU r1 | exact congrArg _ (toU r1) | (rw [toU r1]; done) | (rw [toU r1]; rfl))) ?_
     simp only [sA, sB]
     refine lv 4 (.int .u64 (tn (1#64 <<< (BitVec.ofNat 64 r1).toNat))) rfl rfl (by intro x hx; have hy := tn_lo (BitVec.ofNat 64 r1); go_simp; (first | done | exact shl1U (BitVec.ofNat 64 r1) hy | exact shlUUr 1#64 (BitVec.ofNat 64 r1) hy | exact shlUU 1#64 (BitVec.ofNat 64 r1) hy | exact congrArg _ (shlUU 1#64 (BitVec.ofNat 64 r1) hy) | (rw [shlUU 1#64 (BitVec.ofNat 64 r1) hy]; done) | (rw [shlUU 1#64 (BitVec.ofNat 64 r1) hy]; rfl))) ?_
     simp only [sA, sB]
     refine lv 5 (.int .u64 (tn ((mB x0 r1) + (1#64 <<< (BitVec.ofNat 64 r1).toNat)))) rfl rfl (by intro x hx; go_simp; (first | done | exact addUT (mB x0 r1) (1#64 <<< (BitVec.ofNat 64 r1).toNat) | exact congrArg _ (addUT (mB x0 r1) (1#64 <<< (BitVec.ofNat 64 r1).toNat)) | (rw [addUT (mB x0 r1) (1#64 <<< (BitVec.ofNat 64 r1).toNat)]; done) | (rw [addUT (mB x0 r1) (1#64 <<< (BitVec.ofNat 64 r1).toNat)]; rfl))) ?_
     simp only [sA, sB]
     refine lv 6 (.pointer (some ⟨k1, 1, none⟩)) rfl rfl (by intro x hx; go_simp; (first | done | exact rfl)) ?_
     simp only [sA, sB]
     refine ls 7 2 1 [.int .u64 (tn ((mB x0 r1) + (1#64 <<< (BitVec.ofNat 64 r1).toNat)))] rfl rfl rfl (by intro x hx; obtain ⟨_, z0, q0⟩ := hx.at1 2 1 rfl; go_simp; (first | done | rfl)) ?_
     simp only [Blk.putC, setM, sA, sB]
     clear HS
     refine ld fun W5 HS => ?_
     go_upto_region 4 with fail
     refine lnb HS.out rfl ?_
     refine lm 0 4 rfl rfl rfl rfl ?_
     simp only [sA, sB]
     refine lv 1 (.int .i64 ((r1 + 1 : Nat) : Int)) rfl rfl (by intro x hx; go_simp; (first | done | exact addN r1 1 (by omega) | exact congrArg _ (addN r1 1 (by omega)) | (rw [addN r1 1 (by omega)]; done) | (rw [addN r1 1 (by omega)]; rfl))) ?_
     simp only [sA, sB]
     refine la 2 8 rfl rfl rfl rfl ?_
     simp only [sA, sB]
     clear HS
     refine ld fun W6 HS => ?_
     go_wp2
     exact ⟨hlt1, hid ⟨_, _, _, _, _, _, _, _, _, _, _, _, _, _, _, _, _, _, _, _, _, _, _, _, _, _, _, _, _, _, _, _, rfl, (by simp only [vB, mB]; simp only [h1.out, cond_true]; exact HS.out)⟩⟩
  · have hN1 := hid (show r1 = 64 by omega)
    replace HS := hid (show St w [⟨w.heap.size, ((fnV 128 (two 64 x0.Z x0.O)).map some), 48⟩, ⟨w.heap.size + 1, [some (.int .u64 0), some (.int .u64 0)], 24⟩, ⟨k1, [some (.int .u64 (tn (vB x0 64))), some (.int .u64 (tn (mB x0 64)))], 24⟩] W from (by have h := HS.out; rw [hN1.out] at h; exact h))
    go_upto_region 3 with fail
    refine lnb HS.out rfl ?_
    refine lm 0 4 rfl rfl rfl rfl ?_
    simp only [sA, sB]
    refine lv 1 (.bool false) rfl rfl (by intro x hx; go_simp; (first | done | omega | (simp; omega))) ?_
    simp only [sA, sB]
    clear HS
    refine ld fun W3 HS => ?_
    go_upto_region 9 with fail
    refine lnb HS.out rfl ?_
    refine lv 0 (vU (P.mk (vB x0 64) (mB x0 64))) rfl rfl (by intro x hx; obtain ⟨f0, f1⟩ := hx.two 2 0 rfl rfl; go_simp; (first | done | exact rfl)) ?_
    simp only [sA, sB, vU]
    refine ls 1 1 0 (cU (P.mk (vB x0 64) (mB x0 64))) rfl rfl rfl (by intro x hx; obtain ⟨⟨_, z0, q0⟩, ⟨_, z1, q1⟩⟩ := hx.at2 1 0 rfl; go_simp; (first | done | rfl)) ?_
    simp only [Blk.putC, setM, cU, sA, sB]
    clear HS
    refine ld fun W4 HS => ?_
    go_wp2
    obtain ⟨r0, r1⟩ := HS.out.two 1 0 rfl rfl
    exact bodyPost_ret (v := vU (P.mk (vB x0 64) (mB x0 64))) (by simp [results, Tryd.results44, go_sem, r0, r1, vU]) rfl ⟨rfl, HS.out.below⟩
def andB (x y : BB) : BB := ⟨fun i => bif x.Z i then true else y.Z i, fun i => bif x.O i then y.O i else false⟩
def refAnd (a b : P) : P := tnumB (andB (ofB a) (ofB b))
set_option maxRecDepth 100000 in
set_option maxHeartbeats 1000000 in
theorem ref_And_any (x0 : P) (x1 : P)   (w : World) :
    Calls Tryd.prog 18 #[vU x0, vU x1] w fun e w' => e = .returned (vU (refAnd x0 x1)) ∧ Below w.heap.size w w' := by
  have hz48 := zero_48
  simp only [vU]
  go_enter Tryd.func18, Tryd.ntmps18
  have HS : Hid (St w [⟨w.heap.size, [some (.int .u64 (tn (x0.lo))), some (.int .u64 (tn (x0.hi)))], 24⟩, ⟨w.heap.size + 1, [some (.int .u64 (tn (x1.lo))), some (.int .u64 (tn (x1.hi)))], 24⟩, ⟨w.heap.size + 2, [some (.int .u64 0), some (.int .u64 0)], 24⟩] _) := hid ((((st_nil w).alloc (k := w.heap.size) rfl [.int .u64 (tn (x0.lo)), .int .u64 (tn (x0.hi))] 24).alloc (k := w.heap.size + 1) (by simp) [.int .u64 (tn (x1.lo)), .int .u64 (tn (x1.hi))] 24).alloc (k := w.heap.size + 2) (by simp) [.int .u64 0, .int .u64 0] 24)
  go_upto_region 1 with fail
  refine lnb HS.out rfl ?_
  refine lv 0 (vU x0) rfl rfl (by intro x hx; obtain ⟨f0, f1⟩ := hx.two 0 0 rfl rfl; go_simp; (first | done | exact rfl)) ?_
  simp only [sA, sB, vU]
  refine lc 1 43 #[vU x0] (.agg (fnV 128 (two 64 (ofB x0).Z (ofB x0).O)).toArray) rfl rfl (by intro x hx; exact ref_Of_any x0 _) ?_
  simp only [sA, sB]
  refine lin_new (i := 2) rfl rfl (by rfl) (fnV 128 (fun _ => false)) 48 (fun k => .pointer (some ⟨k, 0, none⟩)) ((fnV 128 (fun _ => false)).map some) (lessC_refl _) (by intro x hx; go_simp; (first | done | exact rfl)) (fun k1 => ?_)
  simp only [sA, sB, sC, sD]
  refine lin_store (i := 3) (St w [⟨w.heap.size, [some (.int .u64 (tn (x0.lo))), some (.int .u64 (tn (x0.hi)))], 24⟩, ⟨w.heap.size + 1, [some (.int .u64 (tn (x1.lo))), some (.int .u64 (tn (x1.hi)))], 24⟩, ⟨w.heap.size + 2, [some (.int .u64 0), some (.int .u64 0)], 24⟩, ⟨k1, ((fnV 128 (two 64 (ofB x0).Z (ofB x0).O)).map some), 48⟩]) rfl rfl (by rfl) (fun x => x.setCells k1 0 (fnV 128 (two 64 (ofB x0).Z (ofB x0).O))) (by intro x hx; exact storeF hx 3 rfl (by simp [fnV_len]) (fnV_one _ _) rfl rfl rfl (fun w => by rw [fnV_len]; kernel_rfl)) (fun x hx => hx.putF 3 _ rfl (by simp [fnV_len])) ?_
  clear HS
  refine ld fun W1 HS => ?_
  go_upto_region 2 with fail
  refine lnb HS.out rfl ?_
  refine lv 0 (vU x1) rfl rfl (by intro x hx; obtain ⟨f0, f1⟩ := hx.two 1 0 rfl rfl; go_simp; (first | done | exact rfl)) ?_
  simp only [sA, sB, vU]
  refine lc 1 43 #[vU x1] (.agg (fnV 128 (two 64 (ofB x1).Z (ofB x1).O)).toArray) rfl rfl (by intro x hx; exact ref_Of_any x1 _) ?_
  simp only [sA, sB]
  refine lin_new (i := 2) rfl rfl (by rfl) (fnV 128 (fun _ => false)) 48 (fun k => .pointer (some ⟨k, 0, none⟩)) ((fnV 128 (fun _ => false)).map some) (lessC_refl _) (by intro x hx; go_simp; (first | done | exact rfl)) (fun k2 => ?_)
  simp only [sA, sB, sC, sD]
  refine lin_store (i := 3) (St w [⟨w.heap.size, [some (.int .u64 (tn (x0.lo))), some (.int .u64 (tn (x0.hi)))], 24⟩, ⟨w.heap.size + 1, [some (.int .u64 (tn (x1.lo))), some (.int .u64 (tn (x1.hi)))], 24⟩, ⟨w.heap.size + 2, [some (.int .u64 0), some (.int .u64 0)], 24⟩, ⟨k1, ((fnV 128 (two 64 (ofB x0).Z (ofB x0).O)).map some), 48⟩, ⟨k2, ((fnV 128 (two 64 (ofB x1).Z (ofB x1).O)).map some), 48⟩]) rfl rfl (by rfl) (fun x => x.setCells k2 0 (fnV 128 (two 64 (ofB x1).Z (ofB x1).O))) (by intro x hx; exact storeF hx 4 rfl (by simp [fnV_len]) (fnV_one _ _) rfl rfl rfl (fun w => by rw [fnV_len]; kernel_rfl)) (fun x hx => hx.putF 4 _ rfl (by simp [fnV_len])) ?_
  clear HS
  refine ld fun W2 HS => ?_
  go_upto_region 3 with fail
  refine lnb HS.out rfl ?_
  refine lin_new (i := 0) rfl rfl (by rfl) (fnV 128 (fun _ => false)) 48 (fun k => .pointer (some ⟨k, 0, none⟩)) ((fnV 128 (fun _ => false)).map some) (lessC_refl _) (by intro x hx; go_simp; (first | done | exact rfl)) (fun k3 => ?_)
  simp only [sA, sB, sC, sD]
  clear HS
  refine ld fun W3 HS => ?_
  go_upto_region 4 with fail
  refine lnb HS.out rfl ?_
  refine lv 0 (.int .i64 0) rfl rfl (by intro x hx; go_simp; (first | done | exact rfl)) ?_
  simp only [sA, sB]
  clear HS
  refine ld fun W4 HS => ?_
  go_wp2
  refine loop_up 64 (fun k a W => Hid (∃ u1_13 u1_14 u1_15 u1_16 u1_17 u1_18 u1_19 u1_20 u1_21 u1_22 u1_23 u1_24 u1_25 u1_26 u1_27 u1_28 u1_29 u1_30 u1_31 u1_32 u1_33 u1_34 u1_35 u1_36 u1_37 u1_38 u1_39 u1_40 u1_41 u1_42 : Value, a = Act.mk [vU x0, vU x1, .pointer (some ⟨w.heap.size, 0, none⟩), .pointer (some ⟨w.heap.size + 1, 0, none⟩), .pointer (some ⟨w.heap.size + 2, 0, none⟩), .pointer (some ⟨k1, 0, none⟩), .pointer (some ⟨k2, 0, none⟩), .pointer (some ⟨k3, 0, none⟩), .int .i64 ((k : Nat) : Int), vU x0, .agg (fnV 128 (two 64 (ofB x0).Z (ofB x0).O)).toArray, vU x1, .agg (fnV 128 (two 64 (ofB x1).Z (ofB x1).O)).toArray, u1_13, u1_14, u1_15, u1_16, u1_17, u1_18, u1_19, u1_20, u1_21, u1_22, u1_23, u1_24, u1_25, u1_26, u1_27, u1_28, u1_29, u1_30, u1_31, u1_32, u1_33, u1_34, u1_35, u1_36, u1_37, u1_38, u1_39, u1_40, u1_41, u1_42, undef, undef].toArray [] ∧ St w [⟨w.heap.size, [some (.int .u64 (tn (x0.lo))), some (.int .u64 (tn (x0.hi)))], 24⟩, ⟨w.heap.size + 1, [some (.int .u64 (tn (x1.lo))), some (.int .u64 (tn (x1.hi)))], 24⟩, ⟨w.heap.size + 2, [some (.int .u64 0), some (.int .u64 0)], 24⟩, ⟨k1, ((fnV 128 (two 64 (ofB x0).Z (ofB x0).O)).map some), 48⟩, ⟨k2, ((fnV 128 (two 64 (ofB x1).Z (ofB x1).O)).map some), 48⟩, ⟨k3, ((fnV 128 (two 64 (upto k (andB (ofB x0) (ofB x1)).Z) (upto k (andB (ofB x0) (ofB x1)).O))).map some), 48⟩] W)) (hid ⟨(undef), (undef), (undef), (undef), (undef), (undef), (undef), (undef), (undef), (undef), (undef), (undef), (undef), (undef), (undef), (undef), (undef), (undef), (undef), (undef), (undef), (undef), (undef), (undef), (undef), (undef), (undef), (undef), (undef), (undef), rfl, (by have h := HS.out; rw [← bits_none (andB (ofB x0) (ofB x1)).Z (andB (ofB x0) (ofB x1)).O] at h; exact h)⟩) (fun r1 a W hr hR => ?_)
  obtain ⟨u1_13, u1_14, u1_15, u1_16, u1_17, u1_18, u1_19, u1_20, u1_21, u1_22, u1_23, u1_24, u1_25, u1_26, u1_27, u1_28, u1_29, u1_30, u1_31, u1_32, u1_33, u1_34, u1_35, u1_36, u1_37, u1_38, u1_39, u1_40, u1_41, u1_42, rfl, hS⟩ := hR.out
  replace HS := hid hS
  clear hS hR
  by_cases hlt1 : r1 < 64
  · -- round
    go_upto_region 5 with fail
    refine lnb HS.out rfl ?_
    refine lm 0 8 rfl rfl rfl rfl ?_
    simp only [sA, sB]
    refine lv 1 (.bool true) rfl rfl (by intro x hx; go_simp; (first | done | omega | (simp; omega))) ?_
    simp only [sA, sB]
    clear HS
    refine ld fun W5 HS => ?_
    go_upto_region 7 with fail
    refine lnb HS.out rfl ?_
    refine lm 0 8 rfl rfl rfl rfl ?_
    simp only [sA, sB]
    refine lm 1 8 rfl rfl rfl rfl ?_
    simp only [sA, sB]
    refine lv 2 (.pointer (some ⟨k1, 64, none⟩)) rfl rfl (by intro x hx; go_simp; (first | done | exact rfl)) ?_
    simp only [sA, sB]
    refine lv 3 (.pointer (some ⟨k1, 64 + r1, none⟩)) rfl rfl (by intro x hx; go_simp; first | (rw [if_pos (by omega)]; done) | (rw [if_pos (by omega)]; rfl) | (intro hq; exfalso; omega) | (simp; omega)) ?_
    simp only [sA, sB]
    refine lv 4 (.bool ((ofB x0).O r1)) rfl rfl (by intro x hx; have f0 := hx.fn 3 (64 + r1) rfl (by omega); rw [two_hi] at f0; go_simp; (first | done | exact rfl)) ?_
    simp only [sA, sB]
    refine lm 5 21 rfl rfl rfl rfl ?_
    simp only [sA, sB]
    refine lin_if (i := 6) (v := .int .i64 ((r1 : Nat) : Int)) ((ofB x0).O r1) rfl rfl (by generalize ((ofB x0).O r1) = gg0; cases gg0 <;> rfl) (by intro hb; have hb8 := hid (show ((ofB x0).O r1) = true from hb); intro x hx; (try simp only [hb]); (try simp only [cond_true]); go_simp; (first | done | exact rfl)) ?_
    simp only [sA, sB]
    refine lin_if (i := 7) (v := .pointer (some ⟨k2, 64, none⟩)) ((ofB x0).O r1) rfl rfl (by generalize ((ofB x0).O r1) = gg0; cases gg0 <;> rfl) (by intro hb; have hb9 := hid (show ((ofB x0).O r1) = true from hb); intro x hx; (try simp only [hb]); (try simp only [cond_true]); go_simp; (first | done | exact rfl)) ?_
    simp only [sA, sB]
    refine lin_if (i := 8) (v := .pointer (some ⟨k2, 64 + r1, none⟩)) ((ofB x0).O r1) rfl rfl (by generalize ((ofB x0).O r1) = gg0; cases gg0 <;> rfl) (by intro hb; have hb10 := hid (show ((ofB x0).O r1) = true from hb); intro x hx; (try simp only [hb]); (try simp only [cond_true]); go_simp; first | (rw [if_pos (by omega)]; done) | (rw [if_pos (by omega)]; rfl) | (intro hq; exfalso; omega) | (simp; omega)) ?_
    simp only [sA, sB]
    refine lin_if (i := 9) (v := .bool ((ofB x1).O r1)) ((ofB x0).O r1) rfl rfl (by generalize ((ofB x0).O r1) = gg0; cases gg0 <;> rfl) (by intro hb; have hb11 := hid (show ((ofB x0).O r1) = true from hb); intro x hx; (try simp only [hb]); (try simp only [cond_true]); have f0 := hx.fn 4 (64 + r1) rfl (by omega); rw [two_hi] at f0; go_simp; (first | done | exact rfl)) ?_
    simp only [sA, sB]
    refine lv 10 (.bool ((bif (ofB x0).O r1 then (ofB x1).O r1 else false))) rfl rfl (by intro x hx; (cases hq : ((ofB x0).O r1) <;> first | rfl | (simp only [hq]; rfl) | simp [hq])) ?_
    simp only [sA, sB]
    refine lv 11 (.pointer (some ⟨k3, 64, none⟩)) rfl rfl (by intro x hx; go_simp; (first | done | exact rfl)) ?_
    simp only [sA, sB]
    refine lv 12 (.pointer (some ⟨k3, 64 + r1, none⟩)) rfl rfl (by intro x hx; go_simp; first | (rw [if_pos (by omega)]; done) | (rw [if_pos (by omega)]; rfl) | (intro hq; exfalso; omega) | (simp; omega)) ?_
    simp only [sA, sB]
    refine lin_store (i := 13) (St w [⟨w.heap.size, [some (.int .u64 (tn (x0.lo))), some (.int .u64 (tn (x0.hi)))], 24⟩, ⟨w.heap.size + 1, [some (.int .u64 (tn (x1.lo))), some (.int .u64 (tn (x1.hi)))], 24⟩, ⟨w.heap.size + 2, [some (.int .u64 0), some (.int .u64 0)], 24⟩, ⟨k1, ((fnV 128 (two 64 (ofB x0).Z (ofB x0).O)).map some), 48⟩, ⟨k2, ((fnV 128 (two 64 (ofB x1).Z (ofB x1).O)).map some), 48⟩, ⟨k3, ((fnV 128 (upd (two 64 (upto r1 (andB (ofB x0) (ofB x1)).Z) (upto r1 (andB (ofB x0) (ofB x1)).O)) (64 + r1) (bif (ofB x0).O r1 then (ofB x1).O r1 else false))).map some), 48⟩]) rfl rfl (by rfl) (fun x => x.setCell ⟨k3, 64 + r1, none⟩ (.bool (bif (ofB x0).O r1 then (ofB x1).O r1 else false))) (by intro x hx; have z0 := hx.fn 5 (64 + r1) rfl (by omega); have q0 := hx.soft 5 (64 + r1) rfl; go_simp; (first | done | rfl)) (fun x hx => hx.fnset 5 (64 + r1) (bif (ofB x0).O r1 then (ofB x1).O r1 else false) rfl) ?_
    clear HS
    refine ld fun W6 HS => ?_
    go_upto_region 8 with fail
    refine lnb HS.out rfl ?_
    refine lm 0 8 rfl rfl rfl rfl ?_
    simp only [sA, sB]
    refine lm 1 8 rfl rfl rfl rfl ?_
    simp only [sA, sB]
    refine lv 2 (.pointer (some ⟨k1, 0, none⟩)) rfl rfl (by intro x hx; go_simp; (first | done | exact rfl)) ?_
    simp only [sA, sB]
    refine lv 3 (.pointer (some ⟨k1, r1, none⟩)) rfl rfl (by intro x hx; go_simp; first | (rw [if_pos (by omega)]; done) | (rw [if_pos (by omega)]; rfl) | (intro hq; exfalso; omega) | (simp; omega)) ?_
    simp only [sA, sB]
    refine lv 4 (.bool ((ofB x0).Z r1)) rfl rfl (by intro x hx; have f0 := hx.fn 3 (r1) rfl (by omega); rw [two_lo (by omega)] at f0; go_simp; (first | done | exact rfl)) ?_
    simp only [sA, sB]
    refine lm 5 34 rfl rfl rfl rfl ?_
    simp only [sA, sB]
    refine lin_if (i := 6) (v := .int .i64 ((r1 : Nat) : Int)) (!((ofB x0).Z r1)) rfl rfl (by generalize ((ofB x0).Z r1) = gg0; cases gg0 <;> rfl) (by intro hb; have hb12 := hid (show ((ofB x0).Z r1) = false from nnb hb); intro x hx; (try simp only [hb]); (try simp only [cond_true]); go_simp; (first | done | exact rfl)) ?_
    simp only [sA, sB]
    refine lin_if (i := 7) (v := .pointer (some ⟨k2, 0, none⟩)) (!((ofB x0).Z r1)) rfl rfl (by generalize ((ofB x0).Z r1) = gg0; cases gg0 <;> rfl) (by intro hb; have hb13 := hid (show ((ofB x0).Z r1) = false from nnb hb); intro x hx; (try simp only [hb]); (try simp only [cond_true]); go_simp; (first | done | exact rfl)) ?_
    simp only [sA, sB]
    refine lin_if (i := 8) (v := .pointer (some ⟨k2, r1, none⟩)) (!((ofB x0).Z r1)) rfl rfl (by generalize ((ofB x0).Z r1) = gg0; cases gg0 <;> rfl) (by intro hb; have hb14 := hid (show ((ofB x0).Z r1) = false from nnb hb); intro x hx; (try simp only [hb]); (try simp only [cond_true]); go_simp; first | (rw [if_pos (by omega)]; done) | (rw [if_pos (by omega)]; rfl) | (intro hq; exfalso; omega) | (simp; omega)) ?_
    simp only [sA, sB]
    refine lin_if (i := 9) (v := .bool ((ofB x1).Z r1)) (!((ofB x0).Z r1)) rfl rfl (by generalize ((ofB x0).Z r1) = gg0; cases gg0 <;> rfl) (by intro hb; have hb15 := hid (show ((ofB x0).Z r1) = false from nnb hb); intro x hx; (try simp only [hb]); (try simp only [cond_true]); have f0 := hx.fn 4 (r1) rfl (by omega); rw [two_lo (by omega)] at f0; go_simp; (first | done | exact rfl)) ?_
    simp only [sA, sB]
    refine lv 10 (.bool ((bif (ofB x0).Z r1 then true else (ofB x1).Z r1))) rfl rfl (by intro x hx; (cases hq : ((ofB x0).Z r1) <;> first | rfl | (simp only [hq]; rfl) | simp [hq])) ?_
    simp only [sA, sB]
    refine lv 11 (.pointer (some ⟨k3, 0, none⟩)) rfl rfl (by intro x hx; go_simp; (first | done | exact rfl)) ?_
    simp only [sA, sB]
    refine lv 12 (.pointer (some ⟨k3, r1, none⟩)) rfl rfl (by intro x hx; go_simp; first | (rw [if_pos (by omega)]; done) | (rw [if_pos (by omega)]; rfl) | (intro hq; exfalso; omega) | (simp; omega)) ?_
    simp only [sA, sB]
    refine lin_store (i := 13) (St w [⟨w.heap.size, [some (.int .u64 (tn (x0.lo))), some (.int .u64 (tn (x0.hi)))], 24⟩, ⟨w.heap.size + 1, [some (.int .u64 (tn (x1.lo))), some (.int .u64 (tn (x1.hi)))], 24⟩, ⟨w.heap.size + 2, [some (.int .u64 0), some (.int .u64 0)], 24⟩, ⟨k1, ((fnV 128 (two 64 (ofB x0).Z (ofB x0).O)).map some), 48⟩, ⟨k2, ((fnV 128 (two 64 (ofB x1).Z (ofB x1).O)).map some), 48⟩, ⟨k3, ((fnV 128 (upd (upd (two 64 (upto r1 (andB (ofB x0) (ofB x1)).Z) (upto r1 (andB (ofB x0) (ofB x1)).O)) (64 + r1) (bif (ofB x0).O r1 then (ofB x1).O r1 else false)) r1 (bif (ofB x0).Z r1 then true else (ofB x1).Z r1))).map some), 48⟩]) rfl rfl (by rfl) (fun x => x.setCell ⟨k3, r1, none⟩ (.bool (bif (ofB x0).Z r1 then true else (ofB x1).Z r1))) (by intro x hx; have z0 := hx.fn 5 (r1) rfl (by omega); have q0 := hx.soft 5 (r1) rfl; go_simp; (first | done | rfl)) (fun x hx => hx.fnset 5 (r1) (bif (ofB x0).Z r1 then true else (ofB x1).Z r1) rfl) ?_
    clear HS
    refine ld fun W7 HS => ?_
    go_upto_region 6 with fail
    refine lnb HS.out rfl ?_
    refine lm 0 8 rfl rfl rfl rfl ?_
    simp only [sA, sB]
    refine lv 1 (.int .i64 ((r1 + 1 : Nat) : Int)) rfl rfl (by intro x hx; go_simp; (first | done | exact addN r1 1 (by omega) | exact congrArg _ (addN r1 1 (by omega)) | (rw [addN r1 1 (by omega)]; done) | (rw [addN r1 1 (by omega)]; rfl))) ?_
    simp only [sA, sB]
    refine la 2 16 rfl rfl rfl rfl ?_
    simp only [sA, sB]
    clear HS
    refine ld fun W8 HS => ?_
    go_wp2
    exact ⟨hlt1, hid ⟨_, _, _, _, _, _, _, _, _, _, _, _, _, _, _, _, _, _, _, _, _, _, _, _, _, _, _, _, _, _, rfl, (by have h := HS.out; rw [upd_hi, upd_lo (by omega), upto_next (by rfl), upto_next (by rfl)] at h; exact h)⟩⟩
  · have hN1 := hid (show r1 = 64 by omega)
    replace HS := hid (show St w [⟨w.heap.size, [some (.int .u64 (tn (x0.lo))), some (.int .u64 (tn (x0.hi)))], 24⟩, ⟨w.heap.size + 1, [some (.int .u64 (tn (x1.lo))), some (.int .u64 (tn (x1.hi)))], 24⟩, ⟨w.heap.size + 2, [some (.int .u64 0), some (.int .u64 0)], 24⟩, ⟨k1, ((fnV 128 (two 64 (ofB x0).Z (ofB x0).O)).map some), 48⟩, ⟨k2, ((fnV 128 (two 64 (ofB x1).Z (ofB x1).O)).map some), 48⟩, ⟨k3, ((fnV 128 (two 64 (andB (ofB x0) (ofB x1)).Z (andB (ofB x0) (ofB x1)).O)).map some), 48⟩] W from (by have h := HS.out; rw [hN1.out, bits_all] at h; exact h))
    go_upto_region 5 with fail
    refine lnb HS.out rfl ?_
    refine lm 0 8 rfl rfl rfl rfl ?_
    simp only [sA, sB]
    refine lv 1 (.bool false) rfl rfl (by intro x hx; go_simp; (first | done | omega | (simp; omega))) ?_
    simp only [sA, sB]
    clear HS
    refine ld fun W5 HS => ?_
    go_upto_region 9 with fail
    refine lnb HS.out rfl ?_
    refine lv 0 (.agg (fnV 128 (two 64 (andB (ofB x0) (ofB x1)).Z (andB (ofB x0) (ofB x1)).O)).toArray) rfl rfl (by intro x hx; exact loadF hx 5 rfl rfl rfl (fun w => by kernel_rfl) (fun w => by kernel_rfl)) ?_
    simp only [sA, sB]
    refine lc 1 44 #[.agg (fnV 128 (two 64 (andB (ofB x0) (ofB x1)).Z (andB (ofB x0) (ofB x1)).O)).toArray] (vU (tnumB (andB (ofB x0) (ofB x1)))) rfl rfl (by intro x hx; exact ref_Tnum_any (andB (ofB x0) (ofB x1)) _) ?_
    simp only [sA, sB, vU]
    refine ls 2 2 0 (cU (tnumB (andB (ofB x0) (ofB x1)))) rfl rfl rfl (by intro x hx; obtain ⟨⟨_, z0, q0⟩, ⟨_, z1, q1⟩⟩ := hx.at2 2 0 rfl; go_simp; (first | done | rfl)) ?_
    simp only [Blk.putC, setM, cU, sA, sB]
    clear HS
    refine ld fun W6 HS => ?_
    go_wp2
    obtain ⟨r0, r1⟩ := HS.out.two 2 0 rfl rfl
    exact bodyPost_ret (v := vU (tnumB (andB (ofB x0) (ofB x1)))) (by simp [results, Tryd.results18, go_sem, r0, r1, vU]) rfl ⟨rfl, HS.out.below⟩
def orB (x y : BB) : BB := ⟨fun i => bif x.Z i then y.Z i else false, fun i => bif x.O i then true else y.O i⟩
def refOr (a b : P) : P := tnumB (orB (ofB a) (ofB b))
set_option maxRecDepth 100000 in
set_option maxHeartbeats 1000000 in
theorem ref_Or_any (x0 : P) (x1 : P)   (w : World) :
    Calls Tryd.prog 19 #[vU x0, vU x1] w fun e w' => e = .returned (vU (refOr x0 x1)) ∧ Below w.heap.size w w' := by
  have hz48 := zero_48
  simp only [vU]
  go_enter Tryd.func19, Tryd.ntmps19
  have HS : Hid (St w [⟨w.heap.size, [some (.int .u64 (tn (x0.lo))), some (.int .u64 (tn (x0.hi)))], 24⟩, ⟨w.heap.size + 1, [some (.int .u64 (tn (x1.lo))), some (.int .u64 (tn (x1.hi)))], 24⟩, ⟨w.heap.size + 2, [some (.int .u64 0), some (.int .u64 0)], 24⟩] _) := hid ((((st_nil w).alloc (k := w.heap.size) rfl [.int .u64 (tn (x0.lo)), .int .u64 (tn (x0.hi))] 24).alloc (k := w.heap.size + 1) (by simp) [.int .u64 (tn (x1.lo)), .int .u64 (tn (x1.hi))] 24).alloc (k := w.heap.size + 2) (by simp) [.int .u64 0, .int .u64 0] 24)
  go_upto_region 1 with fail
  refine lnb HS.out rfl ?_
  refine lv 0 (vU x0) rfl rfl (by intro x hx; obtain ⟨f0, f1⟩ := hx.two 0 0 rfl rfl; go_simp; (first | done | exact rfl)) ?_
  simp only [sA, sB, vU]
  refine lc 1 43 #[vU x0] (.agg (fnV 128 (two 64 (ofB x0).Z (ofB x0).O)).toArray) rfl rfl (by intro x hx; exact ref_Of_any x0 _) ?_
  simp only [sA, sB]
  refine lin_new (i := 2) rfl rfl (by rfl) (fnV 128 (fun _ => false)) 48 (fun k => .pointer (some ⟨k, 0, none⟩)) ((fnV 128 (fun _ => false)).map some) (lessC_refl _) (by intro x hx; go_simp; (first | done | exact rfl)) (fun k1 => ?_)
  simp only [sA, sB, sC, sD]
  refine lin_store (i := 3) (St w [⟨w.heap.size, [some (.int .u64 (tn (x0.lo))), some (.int .u64 (tn (x0.hi)))], 24⟩, ⟨w.heap.size + 1, [some (.int .u64 (tn (x1.lo))), some (.int .u64 (tn (x1.hi)))], 24⟩, ⟨w.heap.size + 2, [some (.int .u64 0), some (.int .u64 0)], 24⟩, ⟨k1, ((fnV 128 (two 64 (ofB x0).Z (ofB x0).O)).map some), 48⟩]) rfl rfl (by rfl) (fun x => x.setCells k1 0 (fnV 128 (two 64 (ofB x0).Z (ofB x0).O))) (by intro x hx; exact storeF hx 3 rfl (by simp [fnV_len]) (fnV_one _ _) rfl rfl rfl (fun w => by rw [fnV_len]; kernel_rfl)) (fun x hx => hx.putF 3 _ rfl (by simp [fnV_len])) ?_
  clear HS
  refine ld fun W1 HS => ?_
  go_upto_region 2 with fail
  refine lnb HS.out rfl ?_
  refine lv 0 (vU x1) rfl rfl (by intro x hx; obtain ⟨f0, f1⟩ := hx.two 1 0 rfl rfl; go_simp; (first | done | exact rfl)) ?_
  simp only [sA, sB, vU]
  refine lc 1 43 #[vU x1] (.agg (fnV 128 (two 64 (ofB x1).Z (ofB x1).O)).toArray) rfl rfl (by intro x hx; exact ref_Of_any x1 _) ?_
  simp only [sA, sB]
  refine lin_new (i := 2) rfl rfl (by rfl) (fnV 128 (fun _ => false)) 48 (fun k => .pointer (some ⟨k, 0, none⟩)) ((fnV 128 (fun _ => false)).map some) (lessC_refl _) (by intro x hx; go_simp; (first | done | exact rfl)) (fun k2 => ?_)
  simp only [sA, sB, sC, sD]
  refine lin_store (i := 3) (St w [⟨w.heap.size, [some (.int .u64 (tn (x0.lo))), some (.int .u64 (tn (x0.hi)))], 24⟩, ⟨w.heap.size + 1, [some (.int .u64 (tn (x1.lo))), some (.int .u64 (tn (x1.hi)))], 24⟩, ⟨w.heap.size + 2, [some (.int .u64 0), some (.int .u64 0)], 24⟩, ⟨k1, ((fnV 128 (two 64 (ofB x0).Z (ofB x0).O)).map some), 48⟩, ⟨k2, ((fnV 128 (two 64 (ofB x1).Z (ofB x1).O)).map some), 48⟩]) rfl rfl (by rfl) (fun x => x.setCells k2 0 (fnV 128 (two 64 (ofB x1).Z (ofB x1).O))) (by intro x hx; exact storeF hx 4 rfl (by simp [fnV_len]) (fnV_one _ _) rfl rfl rfl (fun w => by rw [fnV_len]; kernel_rfl)) (fun x hx => hx.putF 4 _ rfl (by simp [fnV_len])) ?_
  clear HS
  refine ld fun W2 HS => ?_
  go_upto_region 3 with fail
  refine lnb HS.out rfl ?_
  refine lin_new (i := 0) rfl rfl (by rfl) (fnV 128 (fun _ => false)) 48 (fun k => .pointer (some ⟨k, 0, none⟩)) ((fnV 128 (fun _ => false)).map some) (lessC_refl _) (by intro x hx; go_simp; (first | done | exact rfl)) (fun k3 => ?_)
  simp only [sA, sB, sC, sD]
  clear HS
  refine ld fun W3 HS => ?_
  go_upto_region 4 with fail
  refine lnb HS.out rfl ?_
  refine lv 0 (.int .i64 0) rfl rfl (by intro x hx; go_simp; (first | done | exact rfl)) ?_
  simp only [sA, sB]
  clear HS
  refine ld fun W4 HS => ?_
  go_wp2
  refine loop_up 64 (fun k a W => Hid (∃ u1_13 u1_14 u1_15 u1_16 u1_17 u1_18 u1_19 u1_20 u1_21 u1_22 u1_23 u1_24 u1_25 u1_26 u1_27 u1_28 u1_29 u1_30 u1_31 u1_32 u1_33 u1_34 u1_35 u1_36 u1_37 u1_38 u1_39 u1_40 u1_41 u1_42 : Value, a = Act.mk [vU x0, vU x1, .pointer (some ⟨w.heap.size, 0, none⟩), .pointer (some ⟨w.heap.size + 1, 0, none⟩), .pointer (some ⟨w.heap.size + 2, 0, none⟩), .pointer (some ⟨k1, 0, none⟩), .pointer (some ⟨k2, 0, none⟩), .pointer (some ⟨k3, 0, none⟩), .int .i64 ((k : Nat) : Int), vU x0, .agg (fnV 128 (two 64 (ofB x0).Z (ofB x0).O)).toArray, vU x1, .agg (fnV 128 (two 64 (ofB x1).Z (ofB x1).O)).toArray, u1_13, u1_14, u1_15, u1_16, u1_17, u1_18, u1_19, u1_20, u1_21, u1_22, u1_23, u1_24, u1_25, u1_26, u1_27, u1_28, u1_29, u1_30, u1_31, u1_32, u1_33, u1_34, u1_35, u1_36, u1_37, u1_38, u1_39, u1_40, u1_41, u1_42, undef, undef].toArray [] ∧ St w [⟨w.heap.size, [some (.int .u64 (tn (x0.lo))), some (.int .u64 (tn (x0.hi)))], 24⟩, ⟨w.heap.size + 1, [some (.int .u64 (tn (x1.lo))), some (.int .u64 (tn (x1.hi)))], 24⟩, ⟨w.heap.size + 2, [some (.int .u64 0), some (.int .u64 0)], 24⟩, ⟨k1, ((fnV 128 (two 64 (ofB x0).Z (ofB x0).O)).map some), 48⟩, ⟨k2, ((fnV 128 (two 64 (ofB x1).Z (ofB x1).O)).map some), 48⟩, ⟨k3, ((fnV 128 (two 64 (upto k (orB (ofB x0) (ofB x1)).Z) (upto k (orB (ofB x0) (ofB x1)).O))).map some), 48⟩] W)) (hid ⟨(undef), (undef), (undef), (undef), (undef), (undef), (undef), (undef), (undef), (undef), (undef), (undef), (undef), (undef), (undef), (undef), (undef), (undef), (undef), (undef), (undef), (undef), (undef), (undef), (undef), (undef), (undef), (undef), (undef), (undef), rfl, (by have h := HS.out; rw [← bits_none (orB (ofB x0) (ofB x1)).Z (orB (ofB x0) (ofB x1)).O] at h; exact h)⟩) (fun r1 a W hr hR => ?_)
  obtain ⟨u1_13, u1_14, u1_15, u1_16, u1_17, u1_18, u1_19, u1_20, u1_21, u1_22, u1_23, u1_24, u1_25, u1_26, u1_27, u1_28, u1_29, u1_30, u1_31, u1_32, u1_33, u1_34, u1_35, u1_36, u1_37, u1_38, u1_39, u1_40, u1_41, u1_42, rfl, hS⟩ := hR.out
  replace HS := hid hS
  clear hS hR
  by_cases hlt1 : r1 < 64
  · -- round
    go_upto_region 5 with fail
    refine lnb HS.out rfl ?_
    refine lm 0 8 rfl rfl rfl rfl ?_
    simp only [sA, sB]
    refine lv 1 (.bool true) rfl rfl (by intro x hx; go_simp; (first | done | omega | (simp; omega))) ?_
    simp only [sA, sB]
    clear HS
    refine ld fun W5 HS => ?_
    go_upto_region 7 with fail
    refine lnb HS.out rfl ?_
    refine lm 0 8 rfl rfl rfl rfl ?_
    simp only [sA, sB]
    refine lm 1 8 rfl rfl rfl rfl ?_
    simp only [sA, sB]
    refine lv 2 (.pointer (some ⟨k1, 64, none⟩)) rfl rfl (by intro x hx; go_simp; (first | done | exact rfl)) ?_
    simp only [sA, sB]
    refine lv 3 (.pointer (some ⟨k1, 64 + r1, none⟩)) rfl rfl (by intro x hx; go_simp; first | (rw [if_pos (by omega)]; done) | (rw [if_pos (by omega)]; rfl) | (intro hq; exfalso; omega) | (simp; omega)) ?_
    simp only [sA, sB]
    refine lv 4 (.bool ((ofB x0).O r1)) rfl rfl (by intro x hx; have f0 := hx.fn 3 (64 + r1) rfl (by omega); rw [two_hi] at f0; go_simp; (first | done | exact rfl)) ?_
    simp only [sA, sB]
    refine lm 5 21 rfl rfl rfl rfl ?_
    simp only [sA, sB]
    refine lin_if (i := 6) (v := .int .i64 ((r1 : Nat) : Int)) (!((ofB x0).O r1)) rfl rfl (by generalize ((ofB x0).O r1) = gg0; cases gg0 <;> rfl) (by intro hb; have hb16 := hid (show ((ofB x0).O r1) = false from nnb hb); intro x hx; (try simp only [hb]); (try simp only [cond_true]); go_simp; (first | done | exact rfl)) ?_
    simp only [sA, sB]
    refine lin_if (i := 7) (v := .pointer (some ⟨k2, 64, none⟩)) (!((ofB x0).O r1)) rfl rfl (by generalize ((ofB x0).O r1) = gg0; cases gg0 <;> rfl) (by intro hb; have hb17 := hid (show ((ofB x0).O r1) = false from nnb hb); intro x hx; (try simp only [hb]); (try simp only [cond_true]); go_simp; (first | done | exact rfl)) ?_
    simp only [sA, sB]
    refine lin_if (i := 8) (v := .pointer (some ⟨k2, 64 + r1, none⟩)) (!((ofB x0).O r1)) rfl rfl (by generalize ((ofB x0).O r1) = gg0; cases gg0 <;> rfl) (by intro hb; have hb18 := hid (show ((ofB x0).O r1) = false from nnb hb); intro x hx; (try simp only [hb]); (try simp only [cond_true]); go_simp; first | (rw [if_pos (by omega)]; done) | (rw [if_pos (by omega)]; rfl) | (intro hq; exfalso; omega) | (simp; omega)) ?_
    simp only [sA, sB]
    refine lin_if (i := 9) (v := .bool ((ofB x1).O r1)) (!((ofB x0).O r1)) rfl rfl (by generalize ((ofB x0).O r1) = gg0; cases gg0 <;> rfl) (by intro hb; have hb19 := hid (show ((ofB x0).O r1) = false from nnb hb); intro x hx; (try simp only [hb]); (try simp only [cond_true]); have f0 := hx.fn 4 (64 + r1) rfl (by omega); rw [two_hi] at f0; go_simp; (first | done | exact rfl)) ?_
    simp only [sA, sB]
    refine lv 10 (.bool ((bif (ofB x0).O r1 then true else (ofB x1).O r1))) rfl rfl (by intro x hx; (cases hq : ((ofB x0).O r1) <;> first | rfl | (simp only [hq]; rfl) | simp [hq])) ?_
    simp only [sA, sB]
    refine lv 11 (.pointer (some ⟨k3, 64, none⟩)) rfl rfl (by intro x hx; go_simp; (first | done | exact rfl)) ?_
    simp only [sA, sB]
    refine lv 12 (.pointer (some ⟨k3, 64 + r1, none⟩)) rfl rfl (by intro x hx; go_simp; first | (rw [if_pos (by omega)]; done) | (rw [if_pos (by omega)]; rfl) | (intro hq; exfalso; omega) | (simp; omega)) ?_
    simp only [sA, sB]
    refine lin_store (i := 13) (St w [⟨w.heap.size, [some (.int .u64 (tn (x0.lo))), some (.int .u64 (tn (x0.hi)))], 24⟩, ⟨w.heap.size + 1, [some (.int .u64 (tn (x1.lo))), some (.int .u64 (tn (x1.hi)))], 24⟩, ⟨w.heap.size + 2, [some (.int .u64 0), some (.int .u64 0)], 24⟩, ⟨k1, ((fnV 128 (two 64 (ofB x0).Z (ofB x0).O)).map some), 48⟩, ⟨k2, ((fnV 128 (two 64 (ofB x1).Z (ofB x1).O)).map some), 48⟩, ⟨k3, ((fnV 128 (upd (two 64 (upto r1 (orB (ofB x0) (ofB x1)).Z) (upto r1 (orB (ofB x0) (ofB x1)).O)) (64 + r1) (bif (ofB x0).O r1 then true else (ofB x1).O r1))).map some), 48⟩]) rfl rfl (by rfl) (fun x => x.setCell ⟨k3, 64 + r1, none⟩ (.bool (bif (ofB x0).O r1 then true else (ofB x1).O r1))) (by intro x hx; have z0 := hx.fn 5 (64 + r1) rfl (by omega); have q0 := hx.soft 5 (64 + r1) rfl; go_simp; (first | done | rfl)) (fun x hx => hx.fnset 5 (64 + r1) (bif (ofB x0).O r1 then true else (ofB x1).O r1) rfl) ?_
    clear HS
    refine ld fun W6 HS => ?_
    go_upto_region 8 with fail
    refine lnb HS.out rfl ?_
    refine lm 0 8 rfl rfl rfl rfl ?_
    simp only [sA, sB]
    refine lm 1 8 rfl rfl rfl rfl ?_
    simp only [sA, sB]
    refine lv 2 (.pointer (some ⟨k1, 0, none⟩)) rfl rfl (by intro x hx; go_simp; (first | done | exact rfl)) ?_
    simp only [sA, sB]
    refine lv 3 (.pointer (some ⟨k1, r1, none⟩)) rfl rfl (by intro x hx; go_simp; first | (rw [if_pos (by omega)]; done) | (rw [if_pos (by omega)]; rfl) | (intro hq; exfalso; omega) | (simp; omega)) ?_
    simp only [sA, sB]
    refine lv 4 (.bool ((ofB x0).Z r1)) rfl rfl (by intro x hx; have f0 := hx.fn 3 (r1) rfl (by omega); rw [two_lo (by omega)] at f0; go_simp; (first | done | exact rfl)) ?_
    simp only [sA, sB]
    refine lm 5 34 rfl rfl rfl rfl ?_
    simp only [sA, sB]
    refine lin_if (i := 6) (v := .int .i64 ((r1 : Nat) : Int)) ((ofB x0).Z r1) rfl rfl (by generalize ((ofB x0).Z r1) = gg0; cases gg0 <;> rfl) (by intro hb; have hb20 := hid (show ((ofB x0).Z r1) = true from hb); intro x hx; (try simp only [hb]); (try simp only [cond_true]); go_simp; (first | done | exact rfl)) ?_
    simp only [sA, sB]
    refine lin_if (i := 7) (v := .pointer (some ⟨k2, 0, none⟩)) ((ofB x0).Z r1) rfl rfl (by generalize ((ofB x0).Z r1) = gg0; cases gg0 <;> rfl) (by intro hb; have hb21 := hid (show ((ofB x0).Z r1) = true from hb); intro x hx; (try simp only [hb]); (try simp only [cond_true]); go_simp; (first | done | exact rfl)) ?_
    simp only [sA, sB]
    refine lin_if (i := 8) (v := .pointer (some ⟨k2, r1, none⟩)) ((ofB x0).Z r1) rfl rfl (by generalize ((ofB x0).Z r1) = gg0; cases gg0 <;> rfl) (by intro hb; have hb22 := hid (show ((ofB x0).Z r1) = true from hb); intro x hx; (try simp only [hb]); (try simp only [cond_true]); go_simp; first | (rw [if_pos (by omega)]; done) | (rw [if_pos (by omega)]; rfl) | (intro hq; exfalso; omega) | (simp; omega)) ?_
    simp only [sA, sB]
    refine lin_if (i := 9) (v := .bool ((ofB x1).Z r1)) ((ofB x0).Z r1) rfl rfl (by generalize ((ofB x0).Z r1) = gg0; cases gg0 <;> rfl) (by intro hb; have hb23 := hid (show ((ofB x0).Z r1) = true from hb); intro x hx; (try simp only [hb]); (try simp only [cond_true]); have f0 := hx.fn 4 (r1) rfl (by omega); rw [two_lo (by omega)] at f0; go_simp; (first | done | exact rfl)) ?_
    simp only [sA, sB]
    refine lv 10 (.bool ((bif (ofB x0).Z r1 then (ofB x1).Z r1 else false))) rfl rfl (by intro x hx; (cases hq : ((ofB x0).Z r1) <;> first | rfl | (simp only [hq]; rfl) | simp [hq])) ?_
    simp only [sA, sB]
    refine lv 11 (.pointer (some ⟨k3, 0, none⟩)) rfl rfl (by intro x hx; go_simp; (first | done | exact rfl)) ?_
    simp only [sA, sB]
    refine lv 12 (.pointer (some ⟨k3, r1, none⟩)) rfl rfl (by intro x hx; go_simp; first | (rw [if_pos (by omega)]; done) | (rw [if_pos (by omega)]; rfl) | (intro hq; exfalso; omega) | (simp; omega)) ?_
    simp only [sA, sB]
    refine lin_store (i := 13) (St w [⟨w.heap.size, [some (.int .u64 (tn (x0.lo))), some (.int .u64 (tn (x0.hi)))], 24⟩, ⟨w.heap.size + 1, [some (.int .u64 (tn (x1.lo))), some (.int .u64 (tn (x1.hi)))], 24⟩, ⟨w.heap.size + 2, [some (.int .u64 0), some (.int .u64 0)], 24⟩, ⟨k1, ((fnV 128 (two 64 (ofB x0).Z (ofB x0).O)).map some), 48⟩, ⟨k2, ((fnV 128 (two 64 (ofB x1).Z (ofB x1).O)).map some), 48⟩, ⟨k3, ((fnV 128 (upd (upd (two 64 (upto r1 (orB (ofB x0) (ofB x1)).Z) (upto r1 (orB (ofB x0) (ofB x1)).O)) (64 + r1) (bif (ofB x0).O r1 then true else (ofB x1).O r1)) r1 (bif (ofB x0).Z r1 then (ofB x1).Z r1 else false))).map some), 48⟩]) rfl rfl (by rfl) (fun x => x.setCell ⟨k3, r1, none⟩ (.bool (bif (ofB x0).Z r1 then (ofB x1).Z r1 else false))) (by intro x hx; have z0 := hx.fn 5 (r1) rfl (by omega); have q0 := hx.soft 5 (r1) rfl; go_simp; (first | done | rfl)) (fun x hx => hx.fnset 5 (r1) (bif (ofB x0).Z r1 then (ofB x1).Z r1 else false) rfl) ?_
    clear HS
    refine ld fun W7 HS => ?_
    go_upto_region 6 with fail
    refine lnb HS.out rfl ?_
    refine lm 0 8 rfl rfl rfl rfl ?_
    simp only [sA, sB]
    refine lv 1 (.int .i64 ((r1 + 1 : Nat) : Int)) rfl rfl (by intro x hx; go_simp; (first | done | exact addN r1 1 (by omega) | exact congrArg _ (addN r1 1 (by omega)) | (rw [addN r1 1 (by omega)]; done) | (rw [addN r1 1 (by omega)]; rfl))) ?_
    simp only [sA, sB]
    refine la 2 16 rfl rfl rfl rfl ?_
    simp only [sA, sB]
    clear HS
    refine ld fun W8 HS => ?_
    go_wp2
    exact ⟨hlt1, hid ⟨_, _, _, _, _, _, _, _, _, _, _, _, _, _, _, _, _, _, _, _, _, _, _, _, _, _, _, _, _, _, rfl, (by have h := HS.out; rw [upd_hi, upd_lo (by omega), upto_next (by rfl), upto_next (by rfl)] at h; exact h)⟩⟩
  · have hN1 := hid (show r1 = 64 by omega)
    replace HS := hid (show St w [⟨w.heap.size, [some (.int .u64 (tn (x0.lo))), some (.int .u64 (tn (x0.hi)))], 24⟩, ⟨w.heap.size + 1, [some (.int .u64 (tn (x1.lo))), some (.int .u64 (tn (x1.hi)))], 24⟩, ⟨w.heap.size + 2, [some (.int .u64 0), some (.int .u64 0)], 24⟩, ⟨k1, ((fnV 128 (two 64 (ofB x0).Z (ofB x0).O)).map some), 48⟩, ⟨k2, ((fnV 128 (two 64 (ofB x1).Z (ofB x1).O)).map some), 48⟩, ⟨k3, ((fnV 128 (two 64 (orB (ofB x0) (ofB x1)).Z (orB (ofB x0) (ofB x1)).O)).map some), 48⟩] W from (by have h := HS.out; rw [hN1.out, bits_all] at h; exact h))
    go_upto_region 5 with fail
    refine lnb HS.out rfl ?_
    refine lm 0 8 rfl rfl rfl rfl ?_
    simp only [sA, sB]
    refine lv 1 (.bool false) rfl rfl (by intro x hx; go_simp; (first | done | omega | (simp; omega))) ?_
    simp only [sA, sB]
    clear HS
    refine ld fun W5 HS => ?_
    go_upto_region 9 with fail
    refine lnb HS.out rfl ?_
    refine lv 0 (.agg (fnV 128 (two 64 (orB (ofB x0) (ofB x1)).Z (orB (ofB x0) (ofB x1)).O)).toArray) rfl rfl (by intro x hx; exact loadF hx 5 rfl rfl rfl (fun w => by kernel_rfl) (fun w => by kernel_rfl)) ?_
    simp only [sA, sB]
    refine lc 1 44 #[.agg (fnV 128 (two 64 (orB (ofB x0) (ofB x1)).Z (orB (ofB x0) (ofB x1)).O)).toArray] (vU (tnumB (orB (ofB x0) (ofB x1)))) rfl rfl (by intro x hx; exact ref_Tnum_any (orB (ofB x0) (ofB x1)) _) ?_
    simp only [sA, sB, vU]
    refine ls 2 2 0 (cU (tnumB (orB (ofB x0) (ofB x1)))) rfl rfl rfl (by intro x hx; obtain ⟨⟨_, z0, q0⟩, ⟨_, z1, q1⟩⟩ := hx.at2 2 0 rfl; go_simp; (first | done | rfl)) ?_
    simp only [Blk.putC, setM, cU, sA, sB]
    clear HS
    refine ld fun W6 HS => ?_
    go_wp2
    obtain ⟨r0, r1⟩ := HS.out.two 2 0 rfl rfl
    exact bodyPost_ret (v := vU (tnumB (orB (ofB x0) (ofB x1)))) (by simp [results, Tryd.results19, go_sem, r0, r1, vU]) rfl ⟨rfl, HS.out.below⟩
def xorB (x y : BB) : BB := ⟨fun i => bif (bif x.O i then y.O i else false) then true else (bif x.Z i then y.Z i else false), fun i => bif (bif x.O i then y.Z i else false) then true else (bif x.Z i then y.O i else false)⟩
def refXor (a b : P) : P := tnumB (xorB (ofB a) (ofB b))
set_option maxRecDepth 100000 in
set_option maxHeartbeats 1000000 in
theorem ref_Xor_any (x0 : P) (x1 : P)   (w : World) :
    Calls Tryd.prog 20 #[vU x0, vU x1] w fun e w' => e = .returned (vU (refXor x0 x1)) ∧ Below w.heap.size w w' := by
  have hz48 := zero_48
  simp only [vU]
  go_enter Tryd.func20, Tryd.ntmps20
  have HS : Hid (St w [⟨w.heap.size, [some (.int .u64 (tn (x0.lo))), some (.int .u64 (tn (x0.hi)))], 24⟩, ⟨w.heap.size + 1, [some (.int .u64 (tn (x1.lo))), some (.int .u64 (tn (x1.hi)))], 24⟩, ⟨w.heap.size + 2, [some (.int .u64 0), some (.int .u64 0)], 24⟩] _) := hid ((((st_nil w).alloc (k := w.heap.size) rfl [.int .u64 (tn (x0.lo)), .int .u64 (tn (x0.hi))] 24).alloc (k := w.heap.size + 1) (by simp) [.int .u64 (tn (x1.lo)), .int .u64 (tn (x1.hi))] 24).alloc (k := w.heap.size + 2) (by simp) [.int .u64 0, .int .u64 0] 24)
  go_upto_region 1 with fail
  refine lnb HS.out rfl ?_
  refine lv 0 (vU x0) rfl rfl (by intro x hx; obtain ⟨f0, f1⟩ := hx.two 0 0 rfl rfl; go_simp; (first | done | exact rfl)) ?_
  simp only [sA, sB, vU]
  refine lc 1 43 #[vU x0] (.agg (fnV 128 (two 64 (ofB x0).Z (ofB x0).O)).toArray) rfl rfl (by intro x hx; exact ref_Of_any x0 _) ?_
  simp only [sA, sB]
  refine lin_new (i := 2) rfl rfl (by rfl) (fnV 128 (fun _ => false)) 48 (fun k => .pointer (some ⟨k, 0, none⟩)) ((fnV 128 (fun _ => false)).map some) (lessC_refl _) (by intro x hx; go_simp; (first | done | exact rfl)) (fun k1 => ?_)
  simp only [sA, sB, sC, sD]
  refine lin_store (i := 3) (St w [⟨w.heap.size, [some (.int .u64 (tn (x0.lo))), some (.int .u64 (tn (x0.hi)))], 24⟩, ⟨w.heap.size + 1, [some (.int .u64 (tn (x1.lo))), some (.int .u64 (tn (x1.hi)))], 24⟩, ⟨w.heap.size + 2, [some (.int .u64 0), some (.int .u64 0)], 24⟩, ⟨k1, ((fnV 128 (two 64 (ofB x0).Z (ofB x0).O)).map some), 48⟩]) rfl rfl (by rfl) (fun x => x.setCells k1 0 (fnV 128 (two 64 (ofB x0).Z (ofB x0).O))) (by intro x hx; exact storeF hx 3 rfl (by simp [fnV_len]) (fnV_one _ _) rfl rfl rfl (fun w => by rw [fnV_len]; kernel_rfl)) (fun x hx => hx.putF 3 _ rfl (by simp [fnV_len])) ?_
  clear HS
  refine ld fun W1 HS => ?_
  go_upto_region 2 with fail
  refine lnb HS.out rfl ?_
  refine lv 0 (vU x1) rfl rfl (by intro x hx; obtain ⟨f0, f1⟩ := hx.two 1 0 rfl rfl; go_simp; (first | done | exact rfl)) ?_
  simp only [sA, sB, vU]
  refine lc 1 43 #[vU x1] (.agg (fnV 128 (two 64 (ofB x1).Z (ofB x1).O)).toArray) rfl rfl (by intro x hx; exact ref_Of_any x1 _) ?_
  simp only [sA, sB]
  refine lin_new (i := 2) rfl rfl (by rfl) (fnV 128 (fun _ => false)) 48 (fun k => .pointer (some ⟨k, 0, none⟩)) ((fnV 128 (fun _ => false)).map some) (lessC_refl _) (by intro x hx; go_simp; (first | done | exact rfl)) (fun k2 => ?_)
  simp only [sA, sB, sC, sD]
  refine lin_store (i := 3) (St w [⟨w.heap.size, [some (.int .u64 (tn (x0.lo))), some (.int .u64 (tn (x0.hi)))], 24⟩, ⟨w.heap.size + 1, [some (.int .u64 (tn (x1.lo))), some (.int .u64 (tn (x1.hi)))], 24⟩, ⟨w.heap.size + 2, [some (.int .u64 0), some (.int .u64 0)], 24⟩, ⟨k1, ((fnV 128 (two 64 (ofB x0).Z (ofB x0).O)).map some), 48⟩, ⟨k2, ((fnV 128 (two 64 (ofB x1).Z (ofB x1).O)).map some), 48⟩]) rfl rfl (by rfl) (fun x => x.setCells k2 0 (fnV 128 (two 64 (ofB x1).Z (ofB x1).O))) (by intro x hx; exact storeF hx 4 rfl (by simp [fnV_len]) (fnV_one _ _) rfl rfl rfl (fun w => by rw [fnV_len]; kernel_rfl)) (fun x hx => hx.putF 4 _ rfl (by simp [fnV_len])) ?_
  clear HS
  refine ld fun W2 HS => ?_
  go_upto_region 3 with fail
  refine lnb HS.out rfl ?_
  refine lin_new (i := 0) rfl rfl (by rfl) (fnV 128 (fun _ => false)) 48 (fun k => .pointer (some ⟨k, 0, none⟩)) ((fnV 128 (fun _ => false)).map some) (lessC_refl _) (by intro x hx; go_simp; (first | done | exact rfl)) (fun k3 => ?_)
  simp only [sA, sB, sC, sD]
  clear HS
  refine ld fun W3 HS => ?_
  go_upto_region 4 with fail
  refine lnb HS.out rfl ?_
  refine lv 0 (.int .i64 0) rfl rfl (by intro x hx; go_simp; (first | done | exact rfl)) ?_
  simp only [sA, sB]
  clear HS
  refine ld fun W4 HS => ?_
  go_wp2
  refine loop_up 64 (fun k a W => Hid (∃ u1_13 u1_14 u1_15 u1_16 u1_17 u1_18 u1_19 u1_20 u1_21 u1_22 u1_23 u1_24 u1_25 u1_26 u1_27 u1_28 u1_29 u1_30 u1_31 u1_32 u1_33 u1_34 u1_35 u1_36 u1_37 u1_38 u1_39 u1_40 u1_41 u1_42 u1_43 u1_44 u1_45 u1_46 u1_47 u1_48 u1_49 u1_50 u1_51 u1_52 u1_53 u1_54 u1_55 u1_56 u1_57 u1_58 u1_59 u1_60 u1_61 u1_62 u1_63 u1_64 u1_65 u1_66 : Value, a = Act.mk [vU x0, vU x1, .pointer (some ⟨w.heap.size, 0, none⟩), .pointer (some ⟨w.heap.size + 1, 0, none⟩), .pointer (some ⟨w.heap.size + 2, 0, none⟩), .pointer (some ⟨k1, 0, none⟩), .pointer (some ⟨k2, 0, none⟩), .pointer (some ⟨k3, 0, none⟩), .int .i64 ((k : Nat) : Int), vU x0, .agg (fnV 128 (two 64 (ofB x0).Z (ofB x0).O)).toArray, vU x1, .agg (fnV 128 (two 64 (ofB x1).Z (ofB x1).O)).toArray, u1_13, u1_14, u1_15, u1_16, u1_17, u1_18, u1_19, u1_20, u1_21, u1_22, u1_23, u1_24, u1_25, u1_26, u1_27, u1_28, u1_29, u1_30, u1_31, u1_32, u1_33, u1_34, u1_35, u1_36, u1_37, u1_38, u1_39, u1_40, u1_41, u1_42, u1_43, u1_44, u1_45, u1_46, u1_47, u1_48, u1_49, u1_50, u1_51, u1_52, u1_53, u1_54, u1_55, u1_56, u1_57, u1_58, u1_59, u1_60, u1_61, u1_62, u1_63, u1_64, u1_65, u1_66, undef, undef].toArray [] ∧ St w [⟨w.heap.size, [some (.int .u64 (tn (x0.lo))), some (.int .u64 (tn (x0.hi)))], 24⟩, ⟨w.heap.size + 1, [some (.int .u64 (tn (x1.lo))), some (.int .u64 (tn (x1.hi)))], 24⟩, ⟨w.heap.size + 2, [some (.int .u64 0), some (.int .u64 0)], 24⟩, ⟨k1, ((fnV 128 (two 64 (ofB x0).Z (ofB x0).O)).map some), 48⟩, ⟨k2, ((fnV 128 (two 64 (ofB x1).Z (ofB x1).O)).map some), 48⟩, ⟨k3, ((fnV 128 (two 64 (upto k (xorB (ofB x0) (ofB x1)).Z) (upto k (xorB (ofB x0) (ofB x1)).O))).map some), 48⟩] W)) (hid ⟨(undef), (undef), (undef), (undef), (undef), (undef), (undef), (undef), (undef), (undef), (undef), (undef), (undef), (undef), (undef), (undef), (undef), (undef), (undef), (undef), (undef), (undef), (undef), (undef), (undef), (undef), (undef), (undef), (undef), (undef), (undef), (undef), (undef), (undef), (undef), (undef), (undef), (undef), (undef), (undef), (undef), (undef), (undef), (undef), (undef), (undef), (undef), (undef), (undef), (undef), (undef), (undef), (undef), (undef), rfl, (by have h := HS.out; rw [← bits_none (xorB (ofB x0) (ofB x1)).Z (xorB (ofB x0) (ofB x1)).O] at h; exact h)⟩) (fun r1 a W hr hR => ?_)
  obtain ⟨u1_13, u1_14, u1_15, u1_16, u1_17, u1_18, u1_19, u1_20, u1_21, u1_22, u1_23, u1_24, u1_25, u1_26, u1_27, u1_28, u1_29, u1_30, u1_31, u1_32, u1_33, u1_34, u1_35, u1_36, u1_37, u1_38, u1_39, u1_40, u1_41, u1_42, u1_43, u1_44, u1_45, u1_46, u1_47, u1_48, u1_49, u1_50, u1_51, u1_52, u1_53, u1_54, u1_55, u1_56, u1_57, u1_58, u1_59, u1_60, u1_61, u1_62, u1_63, u1_64, u1_65, u1_66, rfl, hS⟩ := hR.out
  replace HS := hid hS
  clear hS hR
  by_cases hlt1 : r1 < 64
  · -- round
    go_upto_region 5 with fail
    refine lnb HS.out rfl ?_
    refine lm 0 8 rfl rfl rfl rfl ?_
    simp only [sA, sB]
    refine lv 1 (.bool true) rfl rfl (by intro x hx; go_simp; (first | done | omega | (simp; omega))) ?_
    simp only [sA, sB]
    clear HS
    refine ld fun W5 HS => ?_
    go_upto_region 7 with fail
    refine lnb HS.out rfl ?_
    refine lm 0 8 rfl rfl rfl rfl ?_
    simp only [sA, sB]
    refine lm 1 8 rfl rfl rfl rfl ?_
    simp only [sA, sB]
    refine lv 2 (.pointer (some ⟨k1, 64, none⟩)) rfl rfl (by intro x hx; go_simp; (first | done | exact rfl)) ?_
    simp only [sA, sB]
    refine lv 3 (.pointer (some ⟨k1, 64 + r1, none⟩)) rfl rfl (by intro x hx; go_simp; first | (rw [if_pos (by omega)]; done) | (rw [if_pos (by omega)]; rfl) | (intro hq; exfalso; omega) | (simp; omega)) ?_
    simp only [sA, sB]
    refine lv 4 (.bool ((ofB x0).O r1)) rfl rfl (by intro x hx; have f0 := hx.fn 3 (64 + r1) rfl (by omega); rw [two_hi] at f0; go_simp; (first | done | exact rfl)) ?_
    simp only [sA, sB]
    refine lm 5 21 rfl rfl rfl rfl ?_
    simp only [sA, sB]
    refine lin_if (i := 6) (v := .int .i64 ((r1 : Nat) : Int)) ((ofB x0).O r1) rfl rfl (by generalize ((ofB x0).O r1) = gg0; cases gg0 <;> rfl) (by intro hb; have hb24 := hid (show ((ofB x0).O r1) = true from hb); intro x hx; (try simp only [hb]); (try simp only [cond_true]); go_simp; (first | done | exact rfl)) ?_
    simp only [sA, sB]
    refine lin_if (i := 7) (v := .pointer (some ⟨k2, 0, none⟩)) ((ofB x0).O r1) rfl rfl (by generalize ((ofB x0).O r1) = gg0; cases gg0 <;> rfl) (by intro hb; have hb25 := hid (show ((ofB x0).O r1) = true from hb); intro x hx; (try simp only [hb]); (try simp only [cond_true]); go_simp; (first | done | exact rfl)) ?_
    simp only [sA, sB]
    refine lin_if (i := 8) (v := .pointer (some ⟨k2, r1, none⟩)) ((ofB x0).O r1) rfl rfl (by generalize ((ofB x0).O r1) = gg0; cases gg0 <;> rfl) (by intro hb; have hb26 := hid (show ((ofB x0).O r1) = true from hb); intro x hx; (try simp only [hb]); (try simp only [cond_true]); go_simp; first | (rw [if_pos (by omega)]; done) | (rw [if_pos (by omega)]; rfl) | (intro hq; exfalso; omega) | (simp; omega)) ?_
    simp only [sA, sB]
    refine lin_if (i := 9) (v := .bool ((ofB x1).Z r1)) ((ofB x0).O r1) rfl rfl (by generalize ((ofB x0).O r1) = gg0; cases gg0 <;> rfl) (by intro hb; have hb27 := hid (show ((ofB x0).O r1) = true from hb); intro x hx; (try simp only [hb]); (try simp only [cond_true]); have f0 := hx.fn 4 (r1) rfl (by omega); rw [two_lo (by omega)] at f0; go_simp; (first | done | exact rfl)) ?_
    simp only [sA, sB]
    refine lv 10 (.bool ((bif (ofB x0).O r1 then (ofB x1).Z r1 else false))) rfl rfl (by intro x hx; (cases hq : ((ofB x0).O r1) <;> first | rfl | (simp only [hq]; rfl) | simp [hq])) ?_
    simp only [sA, sB]
    refine lm 11 27 rfl rfl rfl rfl ?_
    simp only [sA, sB]
    refine lin_if (i := 12) (v := .int .i64 ((r1 : Nat) : Int)) (!(bif (ofB x0).O r1 then (ofB x1).Z r1 else false)) rfl rfl (by generalize (bif (ofB x0).O r1 then (ofB x1).Z r1 else false) = gg0; cases gg0 <;> rfl) (by intro hb; have hb28 := hid (show ((bif (ofB x0).O r1 then (ofB x1).Z r1 else false)) = false from nnb hb); intro x hx; (try simp only [hb]); (try simp only [cond_true]); go_simp; (first | done | exact rfl)) ?_
    simp only [sA, sB]
    refine lin_if (i := 13) (v := .pointer (some ⟨k1, 0, none⟩)) (!(bif (ofB x0).O r1 then (ofB x1).Z r1 else false)) rfl rfl (by generalize (bif (ofB x0).O r1 then (ofB x1).Z r1 else false) = gg0; cases gg0 <;> rfl) (by intro hb; have hb29 := hid (show ((bif (ofB x0).O r1 then (ofB x1).Z r1 else false)) = false from nnb hb); intro x hx; (try simp only [hb]); (try simp only [cond_true]); go_simp; (first | done | exact rfl)) ?_
    simp only [sA, sB]
    refine lin_if (i := 14) (v := .pointer (some ⟨k1, r1, none⟩)) (!(bif (ofB x0).O r1 then (ofB x1).Z r1 else false)) rfl rfl (by generalize (bif (ofB x0).O r1 then (ofB x1).Z r1 else false) = gg0; cases gg0 <;> rfl) (by intro hb; have hb30 := hid (show ((bif (ofB x0).O r1 then (ofB x1).Z r1 else false)) = false from nnb hb); intro x hx; (try simp only [hb]); (try simp only [cond_true]); go_simp; first | (rw [if_pos (by omega)]; done) | (rw [if_pos (by omega)]; rfl) | (intro hq; exfalso; omega) | (simp; omega)) ?_
    simp only [sA, sB]
    refine lin_if (i := 15) (v := .bool ((ofB x0).Z r1)) (!(bif (ofB x0).O r1 then (ofB x1).Z r1 else false)) rfl rfl (by generalize (bif (ofB x0).O r1 then (ofB x1).Z r1 else false) = gg0; cases gg0 <;> rfl) (by intro hb; have hb31 := hid (show ((bif (ofB x0).O r1 then (ofB x1).Z r1 else false)) = false from nnb hb); intro x hx; (try simp only [hb]); (try simp only [cond_true]); have f0 := hx.fn 3 (r1) rfl (by omega); rw [two_lo (by omega)] at f0; go_simp; (first | done | exact rfl)) ?_
    simp only [sA, sB]
    refine lin_if (i := 16) (v := .bool ((ofB x0).Z r1)) (!(bif (ofB x0).O r1 then (ofB x1).Z r1 else false)) rfl rfl (by generalize (bif (ofB x0).O r1 then (ofB x1).Z r1 else false) = gg0; cases gg0 <;> rfl) (by intro hb; have hb32 := hid (show ((bif (ofB x0).O r1 then (ofB x1).Z r1 else false)) = false from nnb hb); intro x hx; (try simp only [hb]); (try simp only [cond_true]); go_simp; (first | done | exact rfl)) ?_
    simp only [sA, sB]
    refine lin_if (i := 17) (v := .int .i64 ((r1 : Nat) : Int)) ((!(bif (ofB x0).O r1 then (ofB x1).Z r1 else false)) && ((ofB x0).Z r1)) rfl rfl (by generalize (bif (ofB x0).O r1 then (ofB x1).Z r1 else false) = gg0; cases gg0 <;> (generalize ((ofB x0).Z r1) = gg1; cases gg1) <;> rfl) (by intro hb; obtain ⟨hl1, hr1⟩ := Bool.and_eq_true_iff.1 hb; have hb33_1 := hid (show ((ofB x0).Z r1) = true from hr1); have hb33_0 := hid (show ((bif (ofB x0).O r1 then (ofB x1).Z r1 else false)) = false from nnb hl1); intro x hx; (try simp only [hb]); (try simp only [hl1]); (try simp only [hr1]); (try simp only [cond_true]); go_simp; (first | done | exact rfl)) ?_
    simp only [sA, sB]
    refine lin_if (i := 18) (v := .pointer (some ⟨k2, 64, none⟩)) ((!(bif (ofB x0).O r1 then (ofB x1).Z r1 else false)) && ((ofB x0).Z r1)) rfl rfl (by generalize (bif (ofB x0).O r1 then (ofB x1).Z r1 else false) = gg0; cases gg0 <;> (generalize ((ofB x0).Z r1) = gg1; cases gg1) <;> rfl) (by intro hb; obtain ⟨hl1, hr1⟩ := Bool.and_eq_true_iff.1 hb; have hb34_1 := hid (show ((ofB x0).Z r1) = true from hr1); have hb34_0 := hid (show ((bif (ofB x0).O r1 then (ofB x1).Z r1 else false)) = false from nnb hl1); intro x hx; (try simp only [hb]); (try simp only [hl1]); (try simp only [hr1]); (try simp only [cond_true]); go_simp; (first | done | exact rfl)) ?_
    simp only [sA, sB]
    refine lin_if (i := 19) (v := .pointer (some ⟨k2, 64 + r1, none⟩)) ((!(bif (ofB x0).O r1 then (ofB x1).Z r1 else false)) && ((ofB x0).Z r1)) rfl rfl (by generalize (bif (ofB x0).O r1 then (ofB x1).Z r1 else false) = gg0; cases gg0 <;> (generalize ((ofB x0).Z r1) = gg1; cases gg1) <;> rfl) (by intro hb; obtain ⟨hl1, hr1⟩ := Bool.and_eq_true_iff.1 hb; have hb35_1 := hid (show ((ofB x0).Z r1) = true from hr1); have hb35_0 := hid (show ((bif (ofB x0).O r1 then (ofB x1).Z r1 else false)) = false from nnb hl1); intro x hx; (try simp only [hb]); (try simp only [hl1]); (try simp only [hr1]); (try simp only [cond_true]); go_simp; first | (rw [if_pos (by omega)]; done) | (rw [if_pos (by omega)]; rfl) | (intro hq; exfalso; omega) | (simp; omega)) ?_
    simp only [sA, sB]
    refine lin_if (i := 20) (v := .bool ((ofB x1).O r1)) ((!(bif (ofB x0).O r1 then (ofB x1).Z r1 else false)) && ((ofB x0).Z r1)) rfl rfl (by generalize (bif (ofB x0).O r1 then (ofB x1).Z r1 else false) = gg0; cases gg0 <;> (generalize ((ofB x0).Z r1) = gg1; cases gg1) <;> rfl) (by intro hb; obtain ⟨hl1, hr1⟩ := Bool.and_eq_true_iff.1 hb; have hb36_1 := hid (show ((ofB x0).Z r1) = true from hr1); have hb36_0 := hid (show ((bif (ofB x0).O r1 then (ofB x1).Z r1 else false)) = false from nnb hl1); intro x hx; (try simp only [hb]); (try simp only [hl1]); (try simp only [hr1]); (try simp only [cond_true]); have f0 := hx.fn 4 (64 + r1) rfl (by omega); rw [two_hi] at f0; go_simp; (first | done | exact rfl)) ?_
    simp only [sA, sB]
    refine lin_if (i := 21) (v := .bool ((bif (ofB x0).Z r1 then (ofB x1).O r1 else false))) (!(bif (ofB x0).O r1 then (ofB x1).Z r1 else false)) rfl rfl (by generalize (bif (ofB x0).O r1 then (ofB x1).Z r1 else false) = gg0; cases gg0 <;> rfl) (by intro hb; have hb37 := hid (show ((bif (ofB x0).O r1 then (ofB x1).Z r1 else false)) = false from nnb hb); intro x hx; (try simp only [hb]); (try simp only [cond_true]); (cases hq : ((ofB x0).Z r1) <;> first | rfl | (simp only [hq]; rfl) | simp [hq])) ?_
    simp only [sA, sB]
    refine lv 22 (.bool ((bif (bif (ofB x0).O r1 then (ofB x1).Z r1 else false) then true else (bif (ofB x0).Z r1 then (ofB x1).O r1 else false)))) rfl rfl (by intro x hx; (cases hq : ((bif (ofB x0).O r1 then (ofB x1).Z r1 else false)) <;> first | rfl | (simp only [hq]; rfl) | simp [hq])) ?_
    simp only [sA, sB]
    refine lv 23 (.pointer (some ⟨k3, 64, none⟩)) rfl rfl (by intro x hx; go_simp; (first | done | exact rfl)) ?_
    simp only [sA, sB]
    refine lv 24 (.pointer (some ⟨k3, 64 + r1, none⟩)) rfl rfl (by intro x hx; go_simp; first | (rw [if_pos (by omega)]; done) | (rw [if_pos (by omega)]; rfl) | (intro hq; exfalso; omega) | (simp; omega)) ?_
    simp only [sA, sB]
    refine lin_store (i := 25) (St w [⟨w.heap.size, [some (.int .u64 (tn (x0.lo))), some (.int .u64 (tn (x0.hi)))], 24⟩, ⟨w.heap.size + 1, [some (.int .u64 (tn (x1.lo))), some (.int .u64 (tn (x1.hi)))], 24⟩, ⟨w.heap.size + 2, [some (.int .u64 0), some (.int .u64 0)], 24⟩, ⟨k1, ((fnV 128 (two 64 (ofB x0).Z (ofB x0).O)).map some), 48⟩, ⟨k2, ((fnV 128 (two 64 (ofB x1).Z (ofB x1).O)).map some), 48⟩, ⟨k3, ((fnV 128 (upd (two 64 (upto r1 (xorB (ofB x0) (ofB x1)).Z) (upto r1 (xorB (ofB x0) (ofB x1)).O)) (64 + r1) (bif (bif (ofB x0).O r1 then (ofB x1).Z r1 else false) then true else (bif (ofB x0).Z r1 then (ofB x1).O r1 else false)))).map some), 48⟩]) rfl rfl (by rfl) (fun x => x.setCell ⟨k3, 64 + r1, none⟩ (.bool (bif (bif (ofB x0).O r1 then (ofB x1).Z r1 else false) then true else (bif (ofB x0).Z r1 then (ofB x1).O r1 else false)))) (by intro x hx; have z0 := hx.fn 5 (64 + r1) rfl (by omega); have q0 := hx.soft 5 (64 + r1) rfl; go_simp; (first | done | rfl)) (fun x hx => hx.fnset 5 (64 + r1) (bif (bif (ofB x0).O r1 then (ofB x1).Z r1 else false) then true else (bif (ofB x0).Z r1 then (ofB x1).O r1 else false)) rfl) ?_
    clear HS
    refine ld fun W6 HS => ?_
    go_upto_region 8 with fail
    refine lnb HS.out rfl ?_
    refine lm 0 8 rfl rfl rfl rfl ?_
    simp only [sA, sB]
    refine lm 1 8 rfl rfl rfl rfl ?_
    simp only [sA, sB]
    refine lv 2 (.pointer (some ⟨k1, 64, none⟩)) rfl rfl (by intro x hx; go_simp; (first | done | exact rfl)) ?_
    simp only [sA, sB]
    refine lv 3 (.pointer (some ⟨k1, 64 + r1, none⟩)) rfl rfl (by intro x hx; go_simp; first | (rw [if_pos (by omega)]; done) | (rw [if_pos (by omega)]; rfl) | (intro hq; exfalso; omega) | (simp; omega)) ?_
    simp only [sA, sB]
    refine lv 4 (.bool ((ofB x0).O r1)) rfl rfl (by intro x hx; have f0 := hx.fn 3 (64 + r1) rfl (by omega); rw [two_hi] at f0; go_simp; (first | done | exact rfl)) ?_
    simp only [sA, sB]
    refine lm 5 46 rfl rfl rfl rfl ?_
    simp only [sA, sB]
    refine lin_if (i := 6) (v := .int .i64 ((r1 : Nat) : Int)) ((ofB x0).O r1) rfl rfl (by generalize ((ofB x0).O r1) = gg0; cases gg0 <;> rfl) (by intro hb; have hb38 := hid (show ((ofB x0).O r1) = true from hb); intro x hx; (try simp only [hb]); (try simp only [cond_true]); go_simp; (first | done | exact rfl)) ?_
    simp only [sA, sB]
    refine lin_if (i := 7) (v := .pointer (some ⟨k2, 64, none⟩)) ((ofB x0).O r1) rfl rfl (by generalize ((ofB x0).O r1) = gg0; cases gg0 <;> rfl) (by intro hb; have hb39 := hid (show ((ofB x0).O r1) = true from hb); intro x hx; (try simp only [hb]); (try simp only [cond_true]); go_simp; (first | done | exact rfl)) ?_
    simp only [sA, sB]
    refine lin_if (i := 8) (v := .pointer (some ⟨k2, 64 + r1, none⟩)) ((ofB x0).O r1) rfl rfl (by generalize ((ofB x0).O r1) = gg0; cases gg0 <;> rfl) (by intro hb; have hb40 := hid (show ((ofB x0).O r1) = true from hb); intro x hx; (try simp only [hb]); (try simp only [cond_true]); go_simp; first | (rw [if_pos (by omega)]; done) | (rw [if_pos (by omega)]; rfl) | (intro hq; exfalso; omega) | (simp; omega)) ?_
    simp only [sA, sB]
    refine lin_if (i := 9) (v := .bool ((ofB x1).O r1)) ((ofB x0).O r1) rfl rfl (by generalize ((ofB x0).O r1) = gg0; cases gg0 <;> rfl) (by intro hb; have hb41 := hid (show ((ofB x0).O r1) = true from hb); intro x hx; (try simp only [hb]); (try simp only [cond_true]); have f0 := hx.fn 4 (64 + r1) rfl (by omega); rw [two_hi] at f0; go_simp; (first | done | exact rfl)) ?_
    simp only [sA, sB]
    refine lv 10 (.bool ((bif (ofB x0).O r1 then (ofB x1).O r1 else false))) rfl rfl (by intro x hx; (cases hq : ((ofB x0).O r1) <;> first | rfl | (simp only [hq]; rfl) | simp [hq])) ?_
    simp only [sA, sB]
    refine lm 11 52 rfl rfl rfl rfl ?_
    simp only [sA, sB]
    refine lin_if (i := 12) (v := .int .i64 ((r1 : Nat) : Int)) (!(bif (ofB x0).O r1 then (ofB x1).O r1 else false)) rfl rfl (by generalize (bif (ofB x0).O r1 then (ofB x1).O r1 else false) = gg0; cases gg0 <;> rfl) (by intro hb; have hb42 := hid (show ((bif (ofB x0).O r1 then (ofB x1).O r1 else false)) = false from nnb hb); intro x hx; (try simp only [hb]); (try simp only [cond_true]); go_simp; (first | done | exact rfl)) ?_
    simp only [sA, sB]
    refine lin_if (i := 13) (v := .pointer (some ⟨k1, 0, none⟩)) (!(bif (ofB x0).O r1 then (ofB x1).O r1 else false)) rfl rfl (by generalize (bif (ofB x0).O r1 then (ofB x1).O r1 else false) = gg0; cases gg0 <;> rfl) (by intro hb; have hb43 := hid (show ((bif (ofB x0).O r1 then (ofB x1).O r1 else false)) = false from nnb hb); intro x hx; (try simp only [hb]); (try simp only [cond_true]); go_simp; (first | done | exact rfl)) ?_
    simp only [sA, sB]
    refine lin_if (i := 14) (v := .pointer (some ⟨k1, r1, none⟩)) (!(bif (ofB x0).O r1 then (ofB x1).O r1 else false)) rfl rfl (by generalize (bif (ofB x0).O r1 then (ofB x1).O r1 else false) = gg0; cases gg0 <;> rfl) (by intro hb; have hb44 := hid (show ((bif (ofB x0).O r1 then (ofB x1).O r1 else false)) = false from nnb hb); intro x hx; (try simp only [hb]); (try simp only [cond_true]); go_simp; first | (rw [if_pos (by omega)]; done) | (rw [if_pos (by omega)]; rfl) | (intro hq; exfalso; omega) | (simp; omega)) ?_
    simp only [sA, sB]
    refine lin_if (i := 15) (v := .bool ((ofB x0).Z r1)) (!(bif (ofB x0).O r1 then (ofB x1).O r1 else false)) rfl rfl (by generalize (bif (ofB x0).O r1 then (ofB x1).O r1 else false) = gg0; cases gg0 <;> rfl) (by intro hb; have hb45 := hid (show ((bif (ofB x0).O r1 then (ofB x1).O r1 else false)) = false from nnb hb); intro x hx; (try simp only [hb]); (try simp only [cond_true]); have f0 := hx.fn 3 (r1) rfl (by omega); rw [two_lo (by omega)] at f0; go_simp; (first | done | exact rfl)) ?_
    simp only [sA, sB]
    refine lin_if (i := 16) (v := .bool ((ofB x0).Z r1)) (!(bif (ofB x0).O r1 then (ofB x1).O r1 else false)) rfl rfl (by generalize (bif (ofB x0).O r1 then (ofB x1).O r1 else false) = gg0; cases gg0 <;> rfl) (by intro hb; have hb46 := hid (show ((bif (ofB x0).O r1 then (ofB x1).O r1 else false)) = false from nnb hb); intro x hx; (try simp only [hb]); (try simp only [cond_true]); go_simp; (first | done | exact rfl)) ?_
    simp only [sA, sB]
    refine lin_if (i := 17) (v := .int .i64 ((r1 : Nat) : Int)) ((!(bif (ofB x0).O r1 then (ofB x1).O r1 else false)) && ((ofB x0).Z r1)) rfl rfl (by generalize (bif (ofB x0).O r1 then (ofB x1).O r1 else false) = gg0; cases gg0 <;> (generalize ((ofB x0).Z r1) = gg1; cases gg1) <;> rfl) (by intro hb; obtain ⟨hl1, hr1⟩ := Bool.and_eq_true_iff.1 hb; have hb47_1 := hid (show ((ofB x0).Z r1) = true from hr1); have hb47_0 := hid (show ((bif (ofB x0).O r1 then (ofB x1).O r1 else false)) = false from nnb hl1); intro x hx; (try simp only [hb]); (try simp only [hl1]); (try simp only [hr1]); (try simp only [cond_true]); go_simp; (first | done | exact rfl)) ?_
    simp only [sA, sB]
    refine lin_if (i := 18) (v := .pointer (some ⟨k2, 0, none⟩)) ((!(bif (ofB x0).O r1 then (ofB x1).O r1 else false)) && ((ofB x0).Z r1)) rfl rfl (by generalize (bif (ofB x0).O r1 then (ofB x1).O r1 else false) = gg0; cases gg0 <;> (generalize ((ofB x0).Z r1) = gg1; cases gg1) <;> rfl) (by intro hb; obtain ⟨hl1, hr1⟩ := Bool.and_eq_true_iff.1 hb; have hb48_1 := hid (show ((ofB x0).Z r1) = true from hr1); have hb48_0 := hid (show ((bif (ofB x0).O r1 then (ofB x1).O r1 else false)) = false from nnb hl1); intro x hx; (try simp only [hb]); (try simp only [hl1]); (try simp only [hr1]); (try simp only [cond_true]); go_simp; (first | done | exact rfl)) ?_
    simp only [sA, sB]
    refine lin_if (i := 19) (v := .pointer (some ⟨k2, r1, none⟩)) ((!(bif (ofB x0).O r1 then (ofB x1).O r1 else false)) && ((ofB x0).Z r1)) rfl rfl (by generalize (bif (ofB x0).O r1 then (ofB x1).O r1 else false) = gg0; cases gg0 <;> (generalize ((ofB x0).Z r1) = gg1; cases gg1) <;> rfl) (by intro hb; obtain ⟨hl1, hr1⟩ := Bool.and_eq_true_iff.1 hb; have hb49_1 := hid (show ((ofB x0).Z r1) = true from hr1); have hb49_0 := hid (show ((bif (ofB x0).O r1 then (ofB x1).O r1 else false)) = false from nnb hl1); intro x hx; (try simp only [hb]); (try simp only [hl1]); (try simp only [hr1]); (try simp only [cond_true]); go_simp; first | (rw [if_pos (by omega)]; done) | (rw [if_pos (by omega)]; rfl) | (intro hq; exfalso; omega) | (simp; omega)) ?_
    simp only [sA, sB]
    refine lin_if (i := 20) (v := .bool ((ofB x1).Z r1)) ((!(bif (ofB x0).O r1 then (ofB x1).O r1 else false)) && ((ofB x0).Z r1)) rfl rfl (by generalize (bif (ofB x0).O r1 then (ofB x1).O r1 else false) = gg0; cases gg0 <;> (generalize ((ofB x0).Z r1) = gg1; cases gg1) <;> rfl) (by intro hb; obtain ⟨hl1, hr1⟩ := Bool.and_eq_true_iff.1 hb; have hb50_1 := hid (show ((ofB x0).Z r1) = true from hr1); have hb50_0 := hid (show ((bif (ofB x0).O r1 then (ofB x1).O r1 else false)) = false from nnb hl1); intro x hx; (try simp only [hb]); (try simp only [hl1]); (try simp only [hr1]); (try simp only [cond_true]); have f0 := hx.fn 4 (r1) rfl (by omega); rw [two_lo (by omega)] at f0; go_simp; (first | done | exact rfl)) ?_
    simp only [sA, sB]
    refine lin_if (i := 21) (v := .bool ((bif (ofB x0).Z r1 then (ofB x1).Z r1 else false))) (!(bif (ofB x0).O r1 then (ofB x1).O r1 else false)) rfl rfl (by generalize (bif (ofB x0).O r1 then (ofB x1).O r1 else false) = gg0; cases gg0 <;> rfl) (by intro hb; have hb51 := hid (show ((bif (ofB x0).O r1 then (ofB x1).O r1 else false)) = false from nnb hb); intro x hx; (try simp only [hb]); (try simp only [cond_true]); (cases hq : ((ofB x0).Z r1) <;> first | rfl | (simp only [hq]; rfl) | simp [hq])) ?_
    simp only [sA, sB]
    refine lv 22 (.bool ((bif (bif (ofB x0).O r1 then (ofB x1).O r1 else false) then true else (bif (ofB x0).Z r1 then (ofB x1).Z r1 else false)))) rfl rfl (by intro x hx; (cases hq : ((bif (ofB x0).O r1 then (ofB x1).O r1 else false)) <;> first | rfl | (simp only [hq]; rfl) | simp [hq])) ?_
    simp only [sA, sB]
    refine lv 23 (.pointer (some ⟨k3, 0, none⟩)) rfl rfl (by intro x hx; go_simp; (first | done | exact rfl)) ?_
    simp only [sA, sB]
    refine lv 24 (.pointer (some ⟨k3, r1, none⟩)) rfl rfl (by intro x hx; go_simp; first | (rw [if_pos (by omega)]; done) | (rw [if_pos (by omega)]; rfl) | (intro hq; exfalso; omega) | (simp; omega)) ?_
    simp only [sA, sB]
    refine lin_store (i := 25) (St w [⟨w.heap.size, [some (.int .u64 (tn (x0.lo))), some (.int .u64 (tn (x0.hi)))], 24⟩, ⟨w.heap.size + 1, [some (.int .u64 (tn (x1.lo))), some (.int .u64 (tn (x1.hi)))], 24⟩, ⟨w.heap.size + 2, [some (.int .u64 0), some (.int .u64 0)], 24⟩, ⟨k1, ((fnV 128 (two 64 (ofB x0).Z (ofB x0).O)).map some), 48⟩, ⟨k2, ((fnV 128 (two 64 (ofB x1).Z (ofB x1).O)).map some), 48⟩, ⟨k3, ((fnV 128 (upd (upd (two 64 (upto r1 (xorB (ofB x0) (ofB x1)).Z) (upto r1 (xorB (ofB x0) (ofB x1)).O)) (64 + r1) (bif (bif (ofB x0).O r1 then (ofB x1).Z r1 else false) then true else (bif (ofB x0).Z r1 then (ofB x1).O r1 else false))) r1 (bif (bif (ofB x0).O r1 then (ofB x1).O r1 else false) then true else (bif (ofB x0).Z r1 then (ofB x1).Z r1 else false)))).map some), 48⟩]) rfl rfl (by rfl) (fun x => x.setCell ⟨k3, r1, none⟩ (.bool (bif (bif (ofB x0).O r1 then (ofB x1).O r1 else false) then true else (bif (ofB x0).Z r1 then (ofB x1).Z r1 else false)))) (by intro x hx; have z0 := hx.fn 5 (r1) rfl (by omega); have q0 := hx.soft 5 (r1) rfl; go_simp; (first | done | rfl)) (fun x hx => hx.fnset 5 (r1) (bif (bif (ofB x0).O r1 then (ofB x1).O r1 else false) then true else (bif (ofB x0).Z r1 then (ofB x1).Z r1 else false)) rfl) ?_
    clear HS
    refine ld fun W7 HS => ?_
    go_upto_region 6 with fail
    refine lnb HS.out rfl ?_
    refine lm 0 8 rfl rfl rfl rfl ?_
    simp only [sA, sB]
    refine lv 1 (.int .i64 ((r1 + 1 : Nat) : Int)) rfl rfl (by intro x hx; go_simp; (first | done | exact addN r1 1 (by omega) | exact congrArg _ (addN r1 1 (by omega)) | (rw [addN r1 1 (by omega)]; done) | (rw [addN r1 1 (by omega)]; rfl))) ?_
    simp only [sA, sB]
    refine la 2 16 rfl rfl rfl rfl ?_
    simp only [sA, sB]
    clear HS
    refine ld fun W8 HS => ?_
    go_wp2
    exact ⟨hlt1, hid ⟨_, _, _, _, _, _, _, _, _, _, _, _, _, _, _, _, _, _, _, _, _, _, _, _, _, _, _, _, _, _, _, _, _, _, _, _, _, _, _, _, _, _, _, _, _, _, _, _, _, _, _, _, _, _, rfl, (by have h := HS.out; rw [upd_hi, upd_lo (by omega), upto_next (by rfl), upto_next (by rfl)] at h; exact h)⟩⟩
  · have hN1 := hid (show r1 = 64 by omega)
    replace HS := hid (show St w [⟨w.heap.size, [some (.int .u64 (tn (x0.lo))), some (.int .u64 (tn (x0.hi)))], 24⟩, ⟨w.heap.size + 1, [some (.int .u64 (tn (x1.lo))), some (.int .u64 (tn (x1.hi)))], 24⟩, ⟨w.heap.size + 2, [some (.int .u64 0), some (.int .u64 0)], 24⟩, ⟨k1, ((fnV 128 (two 64 (ofB x0).Z (ofB x0).O)).map some), 48⟩, ⟨k2, ((fnV 128 (two 64 (ofB x1).Z (ofB x1).O)).map some), 48⟩, ⟨k3, ((fnV 128 (two 64 (xorB (ofB x0) (ofB x1)).Z (xorB (ofB x0) (ofB x1)).O)).map some), 48⟩] W from (by have h := HS.out; rw [hN1.out, bits_all] at h; exact h))
    go_upto_region 5 with fail
    refine lnb HS.out rfl ?_
    refine lm 0 8 rfl rfl rfl rfl ?_
    simp only [sA, sB]
    refine lv 1 (.bool false) rfl rfl (by intro x hx; go_simp; (first | done | omega | (simp; omega))) ?_
    simp only [sA, sB]
    clear HS
    refine ld fun W5 HS => ?_
    go_upto_region 9 with fail
    refine lnb HS.out rfl ?_
    refine lv 0 (.agg (fnV 128 (two 64 (xorB (ofB x0) (ofB x1)).Z (xorB (ofB x0) (ofB x1)).O)).toArray) rfl rfl (by intro x hx; exact loadF hx 5 rfl rfl rfl (fun w => by kernel_rfl) (fun w => by kernel_rfl)) ?_
    simp only [sA, sB]
    refine lc 1 44 #[.agg (fnV 128 (two 64 (xorB (ofB x0) (ofB x1)).Z (xorB (ofB x0) (ofB x1)).O)).toArray] (vU (tnumB (xorB (ofB x0) (ofB x1)))) rfl rfl (by intro x hx; exact ref_Tnum_any (xorB (ofB x0) (ofB x1)) _) ?_
    simp only [sA, sB, vU]
    refine ls 2 2 0 (cU (tnumB (xorB (ofB x0) (ofB x1)))) rfl rfl rfl (by intro x hx; obtain ⟨⟨_, z0, q0⟩, ⟨_, z1, q1⟩⟩ := hx.at2 2 0 rfl; go_simp; (first | done | rfl)) ?_
    simp only [Blk.putC, setM, cU, sA, sB]
    clear HS
    refine ld fun W6 HS => ?_
    go_wp2
    obtain ⟨r0, r1⟩ := HS.out.two 2 0 rfl rfl
    exact bodyPost_ret (v := vU (tnumB (xorB (ofB x0) (ofB x1)))) (by simp [results, Tryd.results20, go_sem, r0, r1, vU]) rfl ⟨rfl, HS.out.below⟩
def joinB (x y : BB) : BB := ⟨fun i => bif x.Z i then true else y.Z i, fun i => bif x.O i then true else y.O i⟩
def refJoin (a b : P) : P := tnumB (joinB (ofB a) (ofB b))
set_option maxRecDepth 100000 in
set_option maxHeartbeats 1000000 in
theorem ref_Join_any (x0 : P) (x1 : P)   (w : World) :
    Calls Tryd.prog 34 #[vU x0, vU x1] w fun e w' => e = .returned (vU (refJoin x0 x1)) ∧ Below w.heap.size w w' := by
  have hz48 := zero_48
  simp only [vU]
  go_enter Tryd.func34, Tryd.ntmps34
  have HS : Hid (St w [⟨w.heap.size, [some (.int .u64 (tn (x0.lo))), some (.int .u64 (tn (x0.hi)))], 24⟩, ⟨w.heap.size + 1, [some (.int .u64 (tn (x1.lo))), some (.int .u64 (tn (x1.hi)))], 24⟩, ⟨w.heap.size + 2, [some (.int .u64 0), some (.int .u64 0)], 24⟩] _) := hid ((((st_nil w).alloc (k := w.heap.size) rfl [.int .u64 (tn (x0.lo)), .int .u64 (tn (x0.hi))] 24).alloc (k := w.heap.size + 1) (by simp) [.int .u64 (tn (x1.lo)), .int .u64 (tn (x1.hi))] 24).alloc (k := w.heap.size + 2) (by simp) [.int .u64 0, .int .u64 0] 24)
  go_upto_region 1 with fail
  refine lnb HS.out rfl ?_
  refine lv 0 (vU x0) rfl rfl (by intro x hx; obtain ⟨f0, f1⟩ := hx.two 0 0 rfl rfl; go_simp; (first | done | exact rfl)) ?_
  simp only [sA, sB, vU]
  refine lc 1 43 #[vU x0] (.agg (fnV 128 (two 64 (ofB x0).Z (ofB x0).O)).toArray) rfl rfl (by intro x hx; exact ref_Of_any x0 _) ?_
  simp only [sA, sB]
  refine lin_new (i := 2) rfl rfl (by rfl) (fnV 128 (fun _ => false)) 48 (fun k => .pointer (some ⟨k, 0, none⟩)) ((fnV 128 (fun _ => false)).map some) (lessC_refl _) (by intro x hx; go_simp; (first | done | exact rfl)) (fun k1 => ?_)
  simp only [sA, sB, sC, sD]
  refine lin_store (i := 3) (St w [⟨w.heap.size, [some (.int .u64 (tn (x0.lo))), some (.int .u64 (tn (x0.hi)))], 24⟩, ⟨w.heap.size + 1, [some (.int .u64 (tn (x1.lo))), some (.int .u64 (tn (x1.hi)))], 24⟩, ⟨w.heap.size + 2, [some (.int .u64 0), some (.int .u64 0)], 24⟩, ⟨k1, ((fnV 128 (two 64 (ofB x0).Z (ofB x0).O)).map some), 48⟩]) rfl rfl (by rfl) (fun x => x.setCells k1 0 (fnV 128 (two 64 (ofB x0).Z (ofB x0).O))) (by intro x hx; exact storeF hx 3 rfl (by simp [fnV_len]) (fnV_one _ _) rfl rfl rfl (fun w => by rw [fnV_len]; kernel_rfl)) (fun x hx => hx.putF 3 _ rfl (by simp [fnV_len])) ?_
  clear HS
  refine ld fun W1 HS => ?_
  go_upto_region 2 with fail
  refine lnb HS.out rfl ?_
  refine lv 0 (vU x1) rfl rfl (by intro x hx; obtain ⟨f0, f1⟩ := hx.two 1 0 rfl rfl; go_simp; (first | done | exact rfl)) ?_
  simp only [sA, sB, vU]
  refine lc 1 43 #[vU x1] (.agg (fnV 128 (two 64 (ofB x1).Z (ofB x1).O)).toArray) rfl rfl (by intro x hx; exact ref_Of_any x1 _) ?_
  simp only [sA, sB]
  refine lin_new (i := 2) rfl rfl (by rfl) (fnV 128 (fun _ => false)) 48 (fun k => .pointer (some ⟨k, 0, none⟩)) ((fnV 128 (fun _ => false)).map some) (lessC_refl _) (by intro x hx; go_simp; (first | done | exact rfl)) (fun k2 => ?_)
  simp only [sA, sB, sC, sD]
  refine lin_store (i := 3) (St w [⟨w.heap.size, [some (.int .u64 (tn (x0.lo))), some (.int .u64 (tn (x0.hi)))], 24⟩, ⟨w.heap.size + 1, [some (.int .u64 (tn (x1.lo))), some (.int .u64 (tn (x1.hi)))], 24⟩, ⟨w.heap.size + 2, [some (.int .u64 0), some (.int .u64 0)], 24⟩, ⟨k1, ((fnV 128 (two 64 (ofB x0).Z (ofB x0).O)).map some), 48⟩, ⟨k2, ((fnV 128 (two 64 (ofB x1).Z (ofB x1).O)).map some), 48⟩]) rfl rfl (by rfl) (fun x => x.setCells k2 0 (fnV 128 (two 64 (ofB x1).Z (ofB x1).O))) (by intro x hx; exact storeF hx 4 rfl (by simp [fnV_len]) (fnV_one _ _) rfl rfl rfl (fun w => by rw [fnV_len]; kernel_rfl)) (fun x hx => hx.putF 4 _ rfl (by simp [fnV_len])) ?_
  clear HS
  refine ld fun W2 HS => ?_
  go_upto_region 3 with fail
  refine lnb HS.out rfl ?_
  refine lin_new (i := 0) rfl rfl (by rfl) (fnV 128 (fun _ => false)) 48 (fun k => .pointer (some ⟨k, 0, none⟩)) ((fnV 128 (fun _ => false)).map some) (lessC_refl _) (by intro x hx; go_simp; (first | done | exact rfl)) (fun k3 => ?_)
  simp only [sA, sB, sC, sD]
  clear HS
  refine ld fun W3 HS => ?_
  go_upto_region 4 with fail
  refine lnb HS.out rfl ?_
  refine lv 0 (.int .i64 0) rfl rfl (by intro x hx; go_simp; (first | done | exact rfl)) ?_
  simp only [sA, sB]
  clear HS
  refine ld fun W4 HS => ?_
  go_wp2
  refine loop_up 64 (fun k a W => Hid (∃ u1_13 u1_14 u1_15 u1_16 u1_17 u1_18 u1_19 u1_20 u1_21 u1_22 u1_23 u1_24 u1_25 u1_26 u1_27 u1_28 u1_29 u1_30 u1_31 u1_32 u1_33 u1_34 u1_35 u1_36 u1_37 u1_38 u1_39 u1_40 u1_41 u1_42 : Value, a = Act.mk [vU x0, vU x1, .pointer (some ⟨w.heap.size, 0, none⟩), .pointer (some ⟨w.heap.size + 1, 0, none⟩), .pointer (some ⟨w.heap.size + 2, 0, none⟩), .pointer (some ⟨k1, 0, none⟩), .pointer (some ⟨k2, 0, none⟩), .pointer (some ⟨k3, 0, none⟩), .int .i64 ((k : Nat) : Int), vU x0, .agg (fnV 128 (two 64 (ofB x0).Z (ofB x0).O)).toArray, vU x1, .agg (fnV 128 (two 64 (ofB x1).Z (ofB x1).O)).toArray, u1_13, u1_14, u1_15, u1_16, u1_17, u1_18, u1_19, u1_20, u1_21, u1_22, u1_23, u1_24, u1_25, u1_26, u1_27, u1_28, u1_29, u1_30, u1_31, u1_32, u1_33, u1_34, u1_35, u1_36, u1_37, u1_38, u1_39, u1_40, u1_41, u1_42, undef, undef].toArray [] ∧ St w [⟨w.heap.size, [some (.int .u64 (tn (x0.lo))), some (.int .u64 (tn (x0.hi)))], 24⟩, ⟨w.heap.size + 1, [some (.int .u64 (tn (x1.lo))), some (.int .u64 (tn (x1.hi)))], 24⟩, ⟨w.heap.size + 2, [some (.int .u64 0), some (.int .u64 0)], 24⟩, ⟨k1, ((fnV 128 (two 64 (ofB x0).Z (ofB x0).O)).map some), 48⟩, ⟨k2, ((fnV 128 (two 64 (ofB x1).Z (ofB x1).O)).map some), 48⟩, ⟨k3, ((fnV 128 (two 64 (upto k (joinB (ofB x0) (ofB x1)).Z) (upto k (joinB (ofB x0) (ofB x1)).O))).map some), 48⟩] W)) (hid ⟨(undef), (undef), (undef), (undef), (undef), (undef), (undef), (undef), (undef), (undef), (undef), (undef), (undef), (undef), (undef), (undef), (undef), (undef), (undef), (undef), (undef), (undef), (undef), (undef), (undef), (undef), (undef), (undef), (undef), (undef), rfl, (by have h := HS.out; rw [← bits_none (joinB (ofB x0) (ofB x1)).Z (joinB (ofB x0) (ofB x1)).O] at h; exact h)⟩) (fun r1 a W hr hR => ?_)
  obtain ⟨u1_13, u1_14, u1_15, u1_16, u1_17, u1_18, u1_19, u1_20, u1_21, u1_22, u1_23, u1_24, u1_25, u1_26, u1_27, u1_28, u1_29, u1_30, u1_31, u1_32, u1_33, u1_34, u1_35, u1_36, u1_37, u1_38, u1_39, u1_40, u1_41, u1_42, rfl, hS⟩ := hR.out
  replace HS := hid hS
  clear hS hR
  by_cases hlt1 : r1 < 64
  · -- round
    go_upto_region 5 with fail
    refine lnb HS.out rfl ?_
    refine lm 0 8 rfl rfl rfl rfl ?_
    simp only [sA, sB]
    refine lv 1 (.bool true) rfl rfl (by intro x hx; go_simp; (first | done | omega | (simp; omega))) ?_
    simp only [sA, sB]
    clear HS
    refine ld fun W5 HS => ?_
    go_upto_region 7 with fail
    refine lnb HS.out rfl ?_
    refine lm 0 8 rfl rfl rfl rfl ?_
    simp only [sA, sB]
    refine lm 1 8 rfl rfl rfl rfl ?_
    simp only [sA, sB]
    refine lv 2 (.pointer (some ⟨k1, 0, none⟩)) rfl rfl (by intro x hx; go_simp; (first | done | exact rfl)) ?_
    simp only [sA, sB]
    refine lv 3 (.pointer (some ⟨k1, r1, none⟩)) rfl rfl (by intro x hx; go_simp; first | (rw [if_pos (by omega)]; done) | (rw [if_pos (by omega)]; rfl) | (intro hq; exfalso; omega) | (simp; omega)) ?_
    simp only [sA, sB]
    refine lv 4 (.bool ((ofB x0).Z r1)) rfl rfl (by intro x hx; have f0 := hx.fn 3 (r1) rfl (by omega); rw [two_lo (by omega)] at f0; go_simp; (first | done | exact rfl)) ?_
    simp only [sA, sB]
    refine lm 5 21 rfl rfl rfl rfl ?_
    simp only [sA, sB]
    refine lin_if (i := 6) (v := .int .i64 ((r1 : Nat) : Int)) (!((ofB x0).Z r1)) rfl rfl (by generalize ((ofB x0).Z r1) = gg0; cases gg0 <;> rfl) (by intro hb; have hb52 := hid (show ((ofB x0).Z r1) = false from nnb hb); intro x hx; (try simp only [hb]); (try simp only [cond_true]); go_simp; (first | done | exact rfl)) ?_
    simp only [sA, sB]
    refine lin_if (i := 7) (v := .pointer (some ⟨k2, 0, none⟩)) (!((ofB x0).Z r1)) rfl rfl (by generalize ((ofB x0).Z r1) = gg0; cases gg0 <;> rfl) (by intro hb; have hb53 := hid (show ((ofB x0).Z r1) = false from nnb hb); intro x hx; (try simp only [hb]); (try simp only [cond_true]); go_simp; (first | done | exact rfl)) ?_
    simp only [sA, sB]
    refine lin_if (i := 8) (v := .pointer (some ⟨k2, r1, none⟩)) (!((ofB x0).Z r1)) rfl rfl (by generalize ((ofB x0).Z r1) = gg0; cases gg0 <;> rfl) (by intro hb; have hb54 := hid (show ((ofB x0).Z r1) = false from nnb hb); intro x hx; (try simp only [hb]); (try simp only [cond_true]); go_simp; first | (rw [if_pos (by omega)]; done) | (rw [if_pos (by omega)]; rfl) | (intro hq; exfalso; omega) | (simp; omega)) ?_
    simp only [sA, sB]
    refine lin_if (i := 9) (v := .bool ((ofB x1).Z r1)) (!((ofB x0).Z r1)) rfl rfl (by generalize ((ofB x0).Z r1) = gg0; cases gg0 <;> rfl) (by intro hb; have hb55 := hid (show ((ofB x0).Z r1) = false from nnb hb); intro x hx; (try simp only [hb]); (try simp only [cond_true]); have f0 := hx.fn 4 (r1) rfl (by omega); rw [two_lo (by omega)] at f0; go_simp; (first | done | exact rfl)) ?_
    simp only [sA, sB]
    refine lv 10 (.bool ((bif (ofB x0).Z r1 then true else (ofB x1).Z r1))) rfl rfl (by intro x hx; (cases hq : ((ofB x0).Z r1) <;> first | rfl | (simp only [hq]; rfl) | simp [hq])) ?_
    simp only [sA, sB]
    refine lv 11 (.pointer (some ⟨k3, 0, none⟩)) rfl rfl (by intro x hx; go_simp; (first | done | exact rfl)) ?_
    simp only [sA, sB]
    refine lv 12 (.pointer (some ⟨k3, r1, none⟩)) rfl rfl (by intro x hx; go_simp; first | (rw [if_pos (by omega)]; done) | (rw [if_pos (by omega)]; rfl) | (intro hq; exfalso; omega) | (simp; omega)) ?_
    simp only [sA, sB]
    refine lin_store (i := 13) (St w [⟨w.heap.size, [some (.int .u64 (tn (x0.lo))), some (.int .u64 (tn (x0.hi)))], 24⟩, ⟨w.heap.size + 1, [some (.int .u64 (tn (x1.lo))), some (.int .u64 (tn (x1.hi)))], 24⟩, ⟨w.heap.size + 2, [some (.int .u64 0), some (.int .u64 0)], 24⟩, ⟨k1, ((fnV 128 (two 64 (ofB x0).Z (ofB x0).O)).map some), 48⟩, ⟨k2, ((fnV 128 (two 64 (ofB x1).Z (ofB x1).O)).map some), 48⟩, ⟨k3, ((fnV 128 (upd (two 64 (upto r1 (joinB (ofB x0) (ofB x1)).Z) (upto r1 (joinB (ofB x0) (ofB x1)).O)) r1 (bif (ofB x0).Z r1 then true else (ofB x1).Z r1))).map some), 48⟩]) rfl rfl (by rfl) (fun x => x.setCell ⟨k3, r1, none⟩ (.bool (bif (ofB x0).Z r1 then true else (ofB x1).Z r1))) (by intro x hx; have z0 := hx.fn 5 (r1) rfl (by omega); have q0 := hx.soft 5 (r1) rfl; go_simp; (first | done | rfl)) (fun x hx => hx.fnset 5 (r1) (bif (ofB x0).Z r1 then true else (ofB x1).Z r1) rfl) ?_
    clear HS
    refine ld fun W6 HS => ?_
    go_upto_region 8 with fail
    refine lnb HS.out rfl ?_
    refine lm 0 8 rfl rfl rfl rfl ?_
    simp only [sA, sB]
    refine lm 1 8 rfl rfl rfl rfl ?_
    simp only [sA, sB]
    refine lv 2 (.pointer (some ⟨k1, 64, none⟩)) rfl rfl (by intro x hx; go_simp; (first | done | exact rfl)) ?_
    simp only [sA, sB]
    refine lv 3 (.pointer (some ⟨k1, 64 + r1, none⟩)) rfl rfl (by intro x hx; go_simp; first | (rw [if_pos (by omega)]; done) | (rw [if_pos (by omega)]; rfl) | (intro hq; exfalso; omega) | (simp; omega)) ?_
    simp only [sA, sB]
    refine lv 4 (.bool ((ofB x0).O r1)) rfl rfl (by intro x hx; have f0 := hx.fn 3 (64 + r1) rfl (by omega); rw [two_hi] at f0; go_simp; (first | done | exact rfl)) ?_
    simp only [sA, sB]
    refine lm 5 34 rfl rfl rfl rfl ?_
    simp only [sA, sB]
    refine lin_if (i := 6) (v := .int .i64 ((r1 : Nat) : Int)) (!((ofB x0).O r1)) rfl rfl (by generalize ((ofB x0).O r1) = gg0; cases gg0 <;> rfl) (by intro hb; have hb56 := hid (show ((ofB x0).O r1) = false from nnb hb); intro x hx; (try simp only [hb]); (try simp only [cond_true]); go_simp; (first | done | exact rfl)) ?_
    simp only [sA, sB]
    refine lin_if (i := 7) (v := .pointer (some ⟨k2, 64, none⟩)) (!((ofB x0).O r1)) rfl rfl (by generalize ((ofB x0).O r1) = gg0; cases gg0 <;> rfl) (by intro hb; have hb57 := hid (show ((ofB x0).O r1) = false from nnb hb); intro x hx; (try simp only [hb]); (try simp only [cond_true]); go_simp; (first | done | exact rfl)) ?_
    simp only [sA, sB]
    refine lin_if (i := 8) (v := .pointer (some ⟨k2, 64 + r1, none⟩)) (!((ofB x0).O r1)) rfl rfl (by generalize ((ofB x0).O r1) = gg0; cases gg0 <;> rfl) (by intro hb; have hb58 := hid (show ((ofB x0).O r1) = false from nnb hb); intro x hx; (try simp only [hb]); (try simp only [cond_true]); go_simp; first | (rw [if_pos (by omega)]; done) | (rw [if_pos (by omega)]; rfl) | (intro hq; exfalso; omega) | (simp; omega)) ?_
    simp only [sA, sB]
    refine lin_if (i := 9) (v := .bool ((ofB x1).O r1)) (!((ofB x0).O r1)) rfl rfl (by generalize ((ofB x0).O r1) = gg0; cases gg0 <;> rfl) (by intro hb; have hb59 := hid (show ((ofB x0).O r1) = false from nnb hb); intro x hx; (try simp only [hb]); (try simp only [cond_true]); have f0 := hx.fn 4 (64 + r1) rfl (by omega); rw [two_hi] at f0; go_simp; (first | done | exact rfl)) ?_
    simp only [sA, sB]
    refine lv 10 (.bool ((bif (ofB x0).O r1 then true else (ofB x1).O r1))) rfl rfl (by intro x hx; (cases hq : ((ofB x0).O r1) <;> first | rfl | (simp only [hq]; rfl) | simp [hq])) ?_
    simp only [sA, sB]
    refine lv 11 (.pointer (some ⟨k3, 64, none⟩)) rfl rfl (by intro x hx; go_simp; (first | done | exact rfl)) ?_
    simp only [sA, sB]
    refine lv 12 (.pointer (some ⟨k3, 64 + r1, none⟩)) rfl rfl (by intro x hx; go_simp; first | (rw [if_pos (by omega)]; done) | (rw [if_pos (by omega)]; rfl) | (intro hq; exfalso; omega) | (simp; omega)) ?_
    simp only [sA, sB]
    refine lin_store (i := 13) (St w [⟨w.heap.size, [some (.int .u64 (tn (x0.lo))), some (.int .u64 (tn (x0.hi)))], 24⟩, ⟨w.heap.size + 1, [some (.int .u64 (tn (x1.lo))), some (.int .u64 (tn (x1.hi)))], 24⟩, ⟨w.heap.size + 2, [some (.int .u64 0), some (.int .u64 0)], 24⟩, ⟨k1, ((fnV 128 (two 64 (ofB x0).Z (ofB x0).O)).map some), 48⟩, ⟨k2, ((fnV 128 (two 64 (ofB x1).Z (ofB x1).O)).map some), 48⟩, ⟨k3, ((fnV 128 (upd (upd (two 64 (upto r1 (joinB (ofB x0) (ofB x1)).Z) (upto r1 (joinB (ofB x0) (ofB x1)).O)) r1 (bif (ofB x0).Z r1 then true else (ofB x1).Z r1)) (64 + r1) (bif (ofB x0).O r1 then true else (ofB x1).O r1))).map some), 48⟩]) rfl rfl (by rfl) (fun x => x.setCell ⟨k3, 64 + r1, none⟩ (.bool (bif (ofB x0).O r1 then true else (ofB x1).O r1))) (by intro x hx; have z0 := hx.fn 5 (64 + r1) rfl (by omega); have q0 := hx.soft 5 (64 + r1) rfl; go_simp; (first | done | rfl)) (fun x hx => hx.fnset 5 (64 + r1) (bif (ofB x0).O r1 then true else (ofB x1).O r1) rfl) ?_
    clear HS
    refine ld fun W7 HS => ?_
    go_upto_region 6 with fail
    refine lnb HS.out rfl ?_
    refine lm 0 8 rfl rfl rfl rfl ?_
    simp only [sA, sB]
    refine lv 1 (.int .i64 ((r1 + 1 : Nat) : Int)) rfl rfl (by intro x hx; go_simp; (first | done | exact addN r1 1 (by omega) | exact congrArg _ (addN r1 1 (by omega)) | (rw [addN r1 1 (by omega)]; done) | (rw [addN r1 1 (by omega)]; rfl))) ?_
    simp only [sA, sB]
    refine la 2 16 rfl rfl rfl rfl ?_
    simp only [sA, sB]
    clear HS
    refine ld fun W8 HS => ?_
    go_wp2
    exact ⟨hlt1, hid ⟨_, _, _, _, _, _, _, _, _, _, _, _, _, _, _, _, _, _, _, _, _, _, _, _, _, _, _, _, _, _, rfl, (by have h := HS.out; rw [upd_lo (by omega), upd_hi, upto_next (by rfl), upto_next (by rfl)] at h; exact h)⟩⟩
  · have hN1 := hid (show r1 = 64 by omega)
    replace HS := hid (show St w [⟨w.heap.size, [some (.int .u64 (tn (x0.lo))), some (.int .u64 (tn (x0.hi)))], 24⟩, ⟨w.heap.size + 1, [some (.int .u64 (tn (x1.lo))), some (.int .u64 (tn (x1.hi)))], 24⟩, ⟨w.heap.size + 2, [some (.int .u64 0), some (.int .u64 0)], 24⟩, ⟨k1, ((fnV 128 (two 64 (ofB x0).Z (ofB x0).O)).map some), 48⟩, ⟨k2, ((fnV 128 (two 64 (ofB x1).Z (ofB x1).O)).map some), 48⟩, ⟨k3, ((fnV 128 (two 64 (joinB (ofB x0) (ofB x1)).Z (joinB (ofB x0) (ofB x1)).O)).map some), 48⟩] W from (by have h := HS.out; rw [hN1.out, bits_all] at h; exact h))
    go_upto_region 5 with fail
    refine lnb HS.out rfl ?_
    refine lm 0 8 rfl rfl rfl rfl ?_
    simp only [sA, sB]
    refine lv 1 (.bool false) rfl rfl (by intro x hx; go_simp; (first | done | omega | (simp; omega))) ?_
    simp only [sA, sB]
    clear HS
    refine ld fun W5 HS => ?_
    go_upto_region 9 with fail
    refine lnb HS.out rfl ?_
    refine lv 0 (.agg (fnV 128 (two 64 (joinB (ofB x0) (ofB x1)).Z (joinB (ofB x0) (ofB x1)).O)).toArray) rfl rfl (by intro x hx; exact loadF hx 5 rfl rfl rfl (fun w => by kernel_rfl) (fun w => by kernel_rfl)) ?_
    simp only [sA, sB]
    refine lc 1 44 #[.agg (fnV 128 (two 64 (joinB (ofB x0) (ofB x1)).Z (joinB (ofB x0) (ofB x1)).O)).toArray] (vU (tnumB (joinB (ofB x0) (ofB x1)))) rfl rfl (by intro x hx; exact ref_Tnum_any (joinB (ofB x0) (ofB x1)) _) ?_
    simp only [sA, sB, vU]
    refine ls 2 2 0 (cU (tnumB (joinB (ofB x0) (ofB x1)))) rfl rfl rfl (by intro x hx; obtain ⟨⟨_, z0, q0⟩, ⟨_, z1, q1⟩⟩ := hx.at2 2 0 rfl; go_simp; (first | done | rfl)) ?_
    simp only [Blk.putC, setM, cU, sA, sB]
    clear HS
    refine ld fun W6 HS => ?_
    go_wp2
    obtain ⟨r0, r1⟩ := HS.out.two 2 0 rfl rfl
    exact bodyPost_ret (v := vU (tnumB (joinB (ofB x0) (ofB x1)))) (by simp [results, Tryd.results34, go_sem, r0, r1, vU]) rfl ⟨rfl, HS.out.below⟩
end Go.Proofs.YtpbhfpogbndljaaDoor.Rt
