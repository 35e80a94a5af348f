/-
  The contract of the document's Bloom.
-/
import Derived.Test.YtejcjjimhaokfaaDoorDlG
import Derived.Test.YtejcjjimhaokfaaDoorDcR
namespace Go.Proofs.YtejcjjimhaokfaaDoor.Dcl
open Go.RowKit Go.Proofs.YtejcjjimhaokfaaDoor.Num Go.Proofs.YtejcjjimhaokfaaDoor.Up Go.Proofs.YtejcjjimhaokfaaDoor.Tn
def refBloom (x0 x1 : BitVec 64) : BitVec 64 × BitVec 64 := (ref_Bucket x0 x1, blm (x0 * 14029467366897019727#64) 64)
theorem refBloom_eq (x0 x1 : BitVec 64) : refBloom x0 x1 = (ref_Bucket x0 x1, blm (x0 * 14029467366897019727#64) 64) := rfl
theorem bloom_is (x n : BitVec 64) : refBloom x n = decl_Bloom x n := by
  unfold refBloom
  rw [bucket_is, blm_all]
  rfl
set_option maxRecDepth 100000 in
set_option maxHeartbeats 1000000 in
theorem ref_Bloom_any (x0 : BitVec 64) (x1 : BitVec 64)    (w : World) :
    Calls Tryd.prog 14 #[.int .u64 (tn (x0)), .int .i64 (ti (x1))] w fun e w' => e = .returned (.tuple #[.int .i64 (ti ((refBloom x0 x1).1)), .int .u64 (tn ((refBloom x0 x1).2))]) ∧ Below w.heap.size w w' := by
  go_enter Tryd.func14, Tryd.ntmps14
  have HS := hid (st_nil w)
  -- region 1
  go_upto_region 1 with fail
  refine lin_begin (St w []) rfl HS.out ?_
  refine lin_val (i := 0) (v := .int .u64 (tn (x0))) rfl rfl (by rfl) (by intro x hx; go_simp; (first | done | exact rfl)) ?_
  simp only [List.set_cons_succ, List.set_cons_zero]
  refine lin_val (i := 1) (v := .int .u64 (tn (x0 * 14029467366897019727#64))) rfl rfl (by rfl) (by intro x hx; go_simp; (first | done | exact mulUT x0 14029467366897019727#64 | exact congrArg _ (mulUT x0 14029467366897019727#64) | (rw [mulUT x0 14029467366897019727#64]; done) | (rw [mulUT x0 14029467366897019727#64]; rfl))) ?_
  simp only [List.set_cons_succ, List.set_cons_zero]
  refine lin_val (i := 2) (v := .int .u64 (tn (x0 * 14029467366897019727#64))) rfl rfl (by rfl) (by intro x hx; go_simp; (first | done | exact rfl)) ?_
  simp only [List.set_cons_succ, List.set_cons_zero]
  refine lin_done ?_
  intro W1 hx
  replace HS := hid hx
  clear hx
  -- region 2
  go_upto_region 2 with fail
  refine lin_begin (St w []) rfl HS.out ?_
  refine lin_val (i := 0) (v := .int .u64 0) rfl rfl (by rfl) (by intro x hx; go_simp; (first | done | exact rfl)) ?_
  simp only [List.set_cons_succ, List.set_cons_zero]
  refine lin_done ?_
  intro W2 hx
  replace HS := hid hx
  clear hx
  -- region 3
  go_upto_region 3 with fail
  refine lin_begin (St w []) rfl HS.out ?_
  refine lin_val (i := 0) (v := .int .i64 0) rfl rfl (by rfl) (by intro x hx; go_simp; (first | done | exact rfl)) ?_
  simp only [List.set_cons_succ, List.set_cons_zero]
  refine lin_done ?_
  intro W3 hx
  replace HS := hid hx
  clear hx
  go_wp2
  refine loop_up 64 (fun k a W => Hid (∃ u1_9 u1_12 u1_13 u1_14 u1_15 u1_16 u1_17 u1_18 u1_19 u1_20 u1_21 u1_22 u1_23 u1_24 u1_25 u1_26 u1_27 u1_28 u1_29 u1_30 u1_31 u1_32 u1_33 u1_34 u1_35 u1_36 u1_37 u1_38 u1_39 u1_40 : Value, a = Act.mk [.int .u64 (tn (x0)), .int .i64 (ti (x1)), undef, undef, .int .i64 0, .int .u64 0, .int .u64 (tn (x0 * 14029467366897019727#64)), .int .u64 (tn (blm (x0 * 14029467366897019727#64) k)), .int .i64 ((k : Nat) : Int), u1_9, .int .u64 (tn (x0)), .int .u64 (tn (x0 * 14029467366897019727#64)), u1_12, u1_13, u1_14, u1_15, u1_16, u1_17, u1_18, u1_19, u1_20, u1_21, u1_22, u1_23, u1_24, u1_25, u1_26, u1_27, u1_28, u1_29, u1_30, u1_31, u1_32, u1_33, u1_34, u1_35, u1_36, u1_37, u1_38, u1_39, u1_40, undef, undef, undef, undef].toArray [] ∧ St w [] W)) (hid ⟨(undef), (undef), (undef), (undef), (undef), (undef), (undef), (undef), (undef), (undef), (undef), (undef), (undef), (undef), (undef), (undef), (undef), (undef), (undef), (undef), (undef), (undef), (undef), (undef), (undef), (undef), (undef), (undef), (undef), (undef), rfl, HS.out⟩) (fun r1 a W hr hR => ?_)
  obtain ⟨u1_9, u1_12, u1_13, u1_14, u1_15, u1_16, u1_17, u1_18, u1_19, u1_20, u1_21, u1_22, u1_23, u1_24, u1_25, u1_26, u1_27, u1_28, u1_29, u1_30, u1_31, u1_32, u1_33, u1_34, u1_35, u1_36, u1_37, u1_38, u1_39, u1_40, rfl, hS⟩ := hR.out
  replace HS := hid hS
  clear hS hR
  by_cases hlt1 : r1 < 64
  · -- round
    -- region 4
    go_upto_region 4 with fail
    refine lin_begin (St w []) rfl HS.out ?_
    refine lin_val (i := 0) (v := .int .i64 ((r1 : Nat) : Int)) rfl rfl (by rfl) (by intro x hx; go_simp; (first | done | exact rfl)) ?_
    simp only [List.set_cons_succ, List.set_cons_zero]
    refine lin_val (i := 1) (v := .bool true) rfl rfl (by rfl) (by intro x hx; go_simp; (first | done | omega | (simp; omega))) ?_
    simp only [List.set_cons_succ, List.set_cons_zero]
    refine lin_done ?_
    intro W4 hx
    replace HS := hid hx
    clear hx
    -- region 6
    go_upto_region 6 with fail
    refine lin_begin (St w []) rfl HS.out ?_
    refine lin_val (i := 0) (v := .int .i64 ((r1 : Nat) : Int)) rfl rfl (by rfl) (by intro x hx; go_simp; (first | done | exact rfl)) ?_
    simp only [List.set_cons_succ, List.set_cons_zero]
    refine lin_val (i := 1) (v := .int .u64 (tn (BitVec.ofNat 64 r1))) rfl rfl (by rfl) (by intro x hx; go_simp; (first | done | exact toU r1 | exact congrArg _ (toU r1) | (rw [toU r1]; done) | (rw [toU r1]; rfl))) ?_
    simp only [List.set_cons_succ, List.set_cons_zero]
    refine lin_val (i := 2) (v := .int .u64 (tn (BitVec.ofNat 64 r1))) rfl rfl (by rfl) (by intro x hx; go_simp; (first | done | exact rfl)) ?_
    simp only [List.set_cons_succ, List.set_cons_zero]
    refine lin_done ?_
    intro W5 hx
    replace HS := hid hx
    clear hx
    -- region 7
    go_upto_region 7 with fail
    refine lin_begin (St w []) rfl HS.out ?_
    refine lin_val (i := 0) (v := .int .u64 (tn (x0 * 14029467366897019727#64))) rfl rfl (by rfl) (by intro x hx; go_simp; (first | done | exact rfl)) ?_
    simp only [List.set_cons_succ, List.set_cons_zero]
    refine lin_val (i := 1) (v := .int .u64 (tn ((x0 * 14029467366897019727#64) >>> (58#64).toNat))) rfl rfl (by rfl) (by intro x hx; have hy := tn_lo 58#64; go_simp; (first | done | exact shrUU (x0 * 14029467366897019727#64) 58#64 hy | exact congrArg _ (shrUU (x0 * 14029467366897019727#64) 58#64 hy) | (rw [shrUU (x0 * 14029467366897019727#64) 58#64 hy]; done) | (rw [shrUU (x0 * 14029467366897019727#64) 58#64 hy]; rfl))) ?_
    simp only [List.set_cons_succ, List.set_cons_zero]
    refine lin_val (i := 2) (v := .int .u64 (tn (BitVec.ofNat 64 r1))) rfl rfl (by rfl) (by intro x hx; go_simp; (first | done | exact rfl)) ?_
    simp only [List.set_cons_succ, List.set_cons_zero]
    refine lin_val (i := 3) (v := .bool ((((x0 * 14029467366897019727#64) >>> (58#64).toNat) == (BitVec.ofNat 64 r1)))) rfl rfl (by rfl) (by intro x hx; go_simp; (first | done | exact eqUT ((x0 * 14029467366897019727#64) >>> (58#64).toNat) (BitVec.ofNat 64 r1) | exact congrArg _ (eqUT ((x0 * 14029467366897019727#64) >>> (58#64).toNat) (BitVec.ofNat 64 r1)) | (rw [eqUT ((x0 * 14029467366897019727#64) >>> (58#64).toNat) (BitVec.ofNat 64 r1)]; done) | (rw [eqUT ((x0 * 14029467366897019727#64) >>> (58#64).toNat) (BitVec.ofNat 64 r1)]; rfl))) ?_
    simp only [List.set_cons_succ, List.set_cons_zero]
    refine lin_val (i := 4) (v := .bool ((((x0 * 14029467366897019727#64) >>> (58#64).toNat) == (BitVec.ofNat 64 r1)))) rfl rfl (by rfl) (by intro x hx; go_simp; (first | done | exact rfl)) ?_
    simp only [List.set_cons_succ, List.set_cons_zero]
    cases h1 : ((((x0 * 14029467366897019727#64) >>> (58#64).toNat) == (BitVec.ofNat 64 r1)))
    · replace h1 := hid h1
      refine lin_val (i := 5) (v := .int .u64 (tn (x0 * 14029467366897019727#64))) rfl rfl (by rfl) (by intro x hx; go_simp; (first | done | exact rfl)) ?_
      simp only [List.set_cons_succ, List.set_cons_zero]
      refine lin_val (i := 6) (v := .int .u64 (tn ((x0 * 14029467366897019727#64) >>> (52#64).toNat))) rfl rfl (by rfl) (by intro x hx; have hy := tn_lo 52#64; go_simp; (first | done | exact shrUU (x0 * 14029467366897019727#64) 52#64 hy | exact congrArg _ (shrUU (x0 * 14029467366897019727#64) 52#64 hy) | (rw [shrUU (x0 * 14029467366897019727#64) 52#64 hy]; done) | (rw [shrUU (x0 * 14029467366897019727#64) 52#64 hy]; rfl))) ?_
      simp only [List.set_cons_succ, List.set_cons_zero]
      refine lin_val (i := 7) (v := .int .u64 (tn (((x0 * 14029467366897019727#64) >>> (52#64).toNat) % 64#64))) rfl rfl (by rfl) (by intro x hx; go_simp; (first | done | exact remUT ((x0 * 14029467366897019727#64) >>> (52#64).toNat) 64#64 | exact congrArg _ (remUT ((x0 * 14029467366897019727#64) >>> (52#64).toNat) 64#64) | (rw [remUT ((x0 * 14029467366897019727#64) >>> (52#64).toNat) 64#64]; done) | (rw [remUT ((x0 * 14029467366897019727#64) >>> (52#64).toNat) 64#64]; rfl))) ?_
      simp only [List.set_cons_succ, List.set_cons_zero]
      refine lin_val (i := 8) (v := .int .u64 (tn (BitVec.ofNat 64 r1))) rfl rfl (by rfl) (by intro x hx; go_simp; (first | done | exact rfl)) ?_
      simp only [List.set_cons_succ, List.set_cons_zero]
      refine lin_val (i := 9) (v := .bool (((((x0 * 14029467366897019727#64) >>> (52#64).toNat) % 64#64) == (BitVec.ofNat 64 r1)))) rfl rfl (by rfl) (by intro x hx; go_simp; (first | done | exact eqUT (((x0 * 14029467366897019727#64) >>> (52#64).toNat) % 64#64) (BitVec.ofNat 64 r1) | exact congrArg _ (eqUT (((x0 * 14029467366897019727#64) >>> (52#64).toNat) % 64#64) (BitVec.ofNat 64 r1)) | (rw [eqUT (((x0 * 14029467366897019727#64) >>> (52#64).toNat) % 64#64) (BitVec.ofNat 64 r1)]; done) | (rw [eqUT (((x0 * 14029467366897019727#64) >>> (52#64).toNat) % 64#64) (BitVec.ofNat 64 r1)]; rfl))) ?_
      simp only [List.set_cons_succ, List.set_cons_zero]
      refine lin_val (i := 10) (v := .bool (((((x0 * 14029467366897019727#64) >>> (52#64).toNat) % 64#64) == (BitVec.ofNat 64 r1)))) rfl rfl (by rfl) (by intro x hx; go_simp; (first | done | exact rfl)) ?_
      simp only [List.set_cons_succ, List.set_cons_zero]
      refine lin_val (i := 11) (v := .bool (((((x0 * 14029467366897019727#64) >>> (52#64).toNat) % 64#64) == (BitVec.ofNat 64 r1)))) rfl rfl (by rfl) (by intro x hx; go_simp; (first | done | exact rfl)) ?_
      simp only [List.set_cons_succ, List.set_cons_zero]
      cases h2 : (((((x0 * 14029467366897019727#64) >>> (52#64).toNat) % 64#64) == (BitVec.ofNat 64 r1)))
      · replace h2 := hid h2
        refine lin_val (i := 12) (v := .int .u64 (tn (x0 * 14029467366897019727#64))) rfl rfl (by rfl) (by intro x hx; go_simp; (first | done | exact rfl)) ?_
        simp only [List.set_cons_succ, List.set_cons_zero]
        refine lin_val (i := 13) (v := .int .u64 (tn ((x0 * 14029467366897019727#64) >>> (46#64).toNat))) rfl rfl (by rfl) (by intro x hx; have hy := tn_lo 46#64; go_simp; (first | done | exact shrUU (x0 * 14029467366897019727#64) 46#64 hy | exact congrArg _ (shrUU (x0 * 14029467366897019727#64) 46#64 hy) | (rw [shrUU (x0 * 14029467366897019727#64) 46#64 hy]; done) | (rw [shrUU (x0 * 14029467366897019727#64) 46#64 hy]; rfl))) ?_
        simp only [List.set_cons_succ, List.set_cons_zero]
        refine lin_val (i := 14) (v := .int .u64 (tn (((x0 * 14029467366897019727#64) >>> (46#64).toNat) % 64#64))) rfl rfl (by rfl) (by intro x hx; go_simp; (first | done | exact remUT ((x0 * 14029467366897019727#64) >>> (46#64).toNat) 64#64 | exact congrArg _ (remUT ((x0 * 14029467366897019727#64) >>> (46#64).toNat) 64#64) | (rw [remUT ((x0 * 14029467366897019727#64) >>> (46#64).toNat) 64#64]; done) | (rw [remUT ((x0 * 14029467366897019727#64) >>> (46#64).toNat) 64#64]; rfl))) ?_
        simp only [List.set_cons_succ, List.set_cons_zero]
        refine lin_val (i := 15) (v := .int .u64 (tn (BitVec.ofNat 64 r1))) rfl rfl (by rfl) (by intro x hx; go_simp; (first | done | exact rfl)) ?_
        simp only [List.set_cons_succ, List.set_cons_zero]
        refine lin_val (i := 16) (v := .bool (((((x0 * 14029467366897019727#64) >>> (46#64).toNat) % 64#64) == (BitVec.ofNat 64 r1)))) rfl rfl (by rfl) (by intro x hx; go_simp; (first | done | exact eqUT (((x0 * 14029467366897019727#64) >>> (46#64).toNat) % 64#64) (BitVec.ofNat 64 r1) | exact congrArg _ (eqUT (((x0 * 14029467366897019727#64) >>> (46#64).toNat) % 64#64) (BitVec.ofNat 64 r1)) | (rw [eqUT (((x0 * 14029467366897019727#64) >>> (46#64).toNat) % 64#64) (BitVec.ofNat 64 r1)]; done) | (rw [eqUT (((x0 * 14029467366897019727#64) >>> (46#64).toNat) % 64#64) (BitVec.ofNat 64 r1)]; rfl))) ?_
        simp only [List.set_cons_succ, List.set_cons_zero]
        refine lin_val (i := 17) (v := .bool (((((x0 * 14029467366897019727#64) >>> (46#64).toNat) % 64#64) == (BitVec.ofNat 64 r1)))) rfl rfl (by rfl) (by intro x hx; go_simp; (first | done | exact rfl)) ?_
        simp only [List.set_cons_succ, List.set_cons_zero]
        refine lin_done ?_
        intro W6 hx
        replace HS := hid hx
        clear hx
        cases h3 : (((((x0 * 14029467366897019727#64) >>> (46#64).toNat) % 64#64) == (BitVec.ofNat 64 r1)))
        · replace h3 := hid h3
          -- region 5
          go_upto_region 5 with fail
          refine lin_begin (St w []) rfl HS.out ?_
          refine lin_val (i := 0) (v := .int .i64 ((r1 : Nat) : Int)) rfl rfl (by rfl) (by intro x hx; go_simp; (first | done | exact rfl)) ?_
          simp only [List.set_cons_succ, List.set_cons_zero]
          refine lin_val (i := 1) (v := .int .i64 ((r1 + 1 : Nat) : Int)) rfl rfl (by rfl) (by intro x hx; go_simp; (first | done | exact addN r1 1 (by omega) | exact congrArg _ (addN r1 1 (by omega)) | (rw [addN r1 1 (by omega)]; done) | (rw [addN r1 1 (by omega)]; rfl))) ?_
          simp only [List.set_cons_succ, List.set_cons_zero]
          refine lin_val (i := 2) (v := .int .i64 ((r1 + 1 : Nat) : Int)) rfl rfl (by rfl) (by intro x hx; go_simp; (first | done | exact rfl)) ?_
          simp only [List.set_cons_succ, List.set_cons_zero]
          refine lin_done ?_
          intro W7 hx
          replace HS := hid hx
          clear hx
          go_wp2
          rw [blm_f (h := (x0 * 14029467366897019727#64)) (k := r1) (by unfold blC; rw [h1.out, h2.out, h3.out]; rfl)]
          exact ⟨hlt1, hid ⟨_, _, _, _, _, _, _, _, _, _, _, _, _, _, _, _, _, _, _, _, _, _, _, _, _, _, _, _, _, _, rfl, HS.out⟩⟩
        · replace h3 := hid h3
          -- region 8
          go_upto_region 8 with fail
          refine lin_begin (St w []) rfl HS.out ?_
          refine lin_val (i := 0) (v := .int .u64 (tn (blm (x0 * 14029467366897019727#64) r1))) rfl rfl (by rfl) (by intro x hx; go_simp; (first | done | exact rfl)) ?_
          simp only [List.set_cons_succ, List.set_cons_zero]
          refine lin_val (i := 1) (v := .int .i64 ((r1 : Nat) : Int)) rfl rfl (by rfl) (by intro x hx; go_simp; (first | done | exact rfl)) ?_
          simp only [List.set_cons_succ, List.set_cons_zero]
          refine lin_val (i := 2) (v := .int .u64 (tn (BitVec.ofNat 64 r1))) rfl rfl (by rfl) (by intro x hx; go_simp; (first | done | exact toU r1 | exact congrArg _ (toU r1) | (rw [toU r1]; done) | (rw [toU r1]; rfl))) ?_
          simp only [List.set_cons_succ, List.set_cons_zero]
          refine lin_val (i := 3) (v := .int .u64 (tn (1#64 <<< shN (BitVec.ofNat 64 r1)))) rfl rfl (by rfl) (by intro x hx; have hy := tn_lo (BitVec.ofNat 64 r1); generalize (BitVec.ofNat 64 r1) = yy at hy ⊢; go_simp; (first | done | exact shl1U yy hy | exact shlUUr 1#64 yy hy | exact shlUU 1#64 yy hy | exact congrArg _ (shlUU 1#64 yy hy) | (rw [shlUU 1#64 yy hy]; done) | (rw [shlUU 1#64 yy hy]; rfl))) ?_
          simp only [List.set_cons_succ, List.set_cons_zero]
          refine lin_val (i := 4) (v := .int .u64 (tn ((blm (x0 * 14029467366897019727#64) r1) + (1#64 <<< shN (BitVec.ofNat 64 r1))))) rfl rfl (by rfl) (by intro x hx; go_simp; (first | done | exact addUT (blm (x0 * 14029467366897019727#64) r1) (1#64 <<< shN (BitVec.ofNat 64 r1)) | exact congrArg _ (addUT (blm (x0 * 14029467366897019727#64) r1) (1#64 <<< shN (BitVec.ofNat 64 r1))) | (rw [addUT (blm (x0 * 14029467366897019727#64) r1) (1#64 <<< shN (BitVec.ofNat 64 r1))]; done) | (rw [addUT (blm (x0 * 14029467366897019727#64) r1) (1#64 <<< shN (BitVec.ofNat 64 r1))]; rfl))) ?_
          simp only [List.set_cons_succ, List.set_cons_zero]
          refine lin_val (i := 5) (v := .int .u64 (tn ((blm (x0 * 14029467366897019727#64) r1) + (1#64 <<< shN (BitVec.ofNat 64 r1))))) rfl rfl (by rfl) (by intro x hx; go_simp; (first | done | exact rfl)) ?_
          simp only [List.set_cons_succ, List.set_cons_zero]
          refine lin_done ?_
          intro W7 hx
          replace HS := hid hx
          clear hx
          -- region 5
          go_upto_region 5 with fail
          refine lin_begin (St w []) rfl HS.out ?_
          refine lin_val (i := 0) (v := .int .i64 ((r1 : Nat) : Int)) rfl rfl (by rfl) (by intro x hx; go_simp; (first | done | exact rfl)) ?_
          simp only [List.set_cons_succ, List.set_cons_zero]
          refine lin_val (i := 1) (v := .int .i64 ((r1 + 1 : Nat) : Int)) rfl rfl (by rfl) (by intro x hx; go_simp; (first | done | exact addN r1 1 (by omega) | exact congrArg _ (addN r1 1 (by omega)) | (rw [addN r1 1 (by omega)]; done) | (rw [addN r1 1 (by omega)]; rfl))) ?_
          simp only [List.set_cons_succ, List.set_cons_zero]
          refine lin_val (i := 2) (v := .int .i64 ((r1 + 1 : Nat) : Int)) rfl rfl (by rfl) (by intro x hx; go_simp; (first | done | exact rfl)) ?_
          simp only [List.set_cons_succ, List.set_cons_zero]
          refine lin_done ?_
          intro W8 hx
          replace HS := hid hx
          clear hx
          go_wp2
          rw [blm_t (h := (x0 * 14029467366897019727#64)) (k := r1) (by unfold blC; rw [h1.out, h2.out, h3.out]; rfl)]
          exact ⟨hlt1, hid ⟨_, _, _, _, _, _, _, _, _, _, _, _, _, _, _, _, _, _, _, _, _, _, _, _, _, _, _, _, _, _, rfl, HS.out⟩⟩
      · replace h2 := hid h2
        refine lin_no (i := 12) rfl rfl (by kernel_rfl) ?_
        simp only [List.set_cons_succ, List.set_cons_zero]
        refine lin_no (i := 13) rfl rfl (by kernel_rfl) ?_
        simp only [List.set_cons_succ, List.set_cons_zero]
        refine lin_no (i := 14) rfl rfl (by kernel_rfl) ?_
        simp only [List.set_cons_succ, List.set_cons_zero]
        refine lin_no (i := 15) rfl rfl (by kernel_rfl) ?_
        simp only [List.set_cons_succ, List.set_cons_zero]
        refine lin_no (i := 16) rfl rfl (by kernel_rfl) ?_
        simp only [List.set_cons_succ, List.set_cons_zero]
        refine lin_val (i := 17) (v := .bool true) rfl rfl (by rfl) (by intro x hx; go_simp; (first | done | exact rfl)) ?_
        simp only [List.set_cons_succ, List.set_cons_zero]
        refine lin_done ?_
        intro W6 hx
        replace HS := hid hx
        clear hx
        -- region 8
        go_upto_region 8 with fail
        refine lin_begin (St w []) rfl HS.out ?_
        refine lin_val (i := 0) (v := .int .u64 (tn (blm (x0 * 14029467366897019727#64) r1))) rfl rfl (by rfl) (by intro x hx; go_simp; (first | done | exact rfl)) ?_
        simp only [List.set_cons_succ, List.set_cons_zero]
        refine lin_val (i := 1) (v := .int .i64 ((r1 : Nat) : Int)) rfl rfl (by rfl) (by intro x hx; go_simp; (first | done | exact rfl)) ?_
        simp only [List.set_cons_succ, List.set_cons_zero]
        refine lin_val (i := 2) (v := .int .u64 (tn (BitVec.ofNat 64 r1))) rfl rfl (by rfl) (by intro x hx; go_simp; (first | done | exact toU r1 | exact congrArg _ (toU r1) | (rw [toU r1]; done) | (rw [toU r1]; rfl))) ?_
        simp only [List.set_cons_succ, List.set_cons_zero]
        refine lin_val (i := 3) (v := .int .u64 (tn (1#64 <<< shN (BitVec.ofNat 64 r1)))) rfl rfl (by rfl) (by intro x hx; have hy := tn_lo (BitVec.ofNat 64 r1); generalize (BitVec.ofNat 64 r1) = yy at hy ⊢; go_simp; (first | done | exact shl1U yy hy | exact shlUUr 1#64 yy hy | exact shlUU 1#64 yy hy | exact congrArg _ (shlUU 1#64 yy hy) | (rw [shlUU 1#64 yy hy]; done) | (rw [shlUU 1#64 yy hy]; rfl))) ?_
        simp only [List.set_cons_succ, List.set_cons_zero]
        refine lin_val (i := 4) (v := .int .u64 (tn ((blm (x0 * 14029467366897019727#64) r1) + (1#64 <<< shN (BitVec.ofNat 64 r1))))) rfl rfl (by rfl) (by intro x hx; go_simp; (first | done | exact addUT (blm (x0 * 14029467366897019727#64) r1) (1#64 <<< shN (BitVec.ofNat 64 r1)) | exact congrArg _ (addUT (blm (x0 * 14029467366897019727#64) r1) (1#64 <<< shN (BitVec.ofNat 64 r1))) | (rw [addUT (blm (x0 * 14029467366897019727#64) r1) (1#64 <<< shN (BitVec.ofNat 64 r1))]; done) | (rw [addUT (blm (x0 * 14029467366897019727#64) r1) (1#64 <<< shN (BitVec.ofNat 64 r1))]; rfl))) ?_
        simp only [List.set_cons_succ, List.set_cons_zero]
        refine lin_val (i := 5) (v := .int .u64 (tn ((blm (x0 * 14029467366897019727#64) r1) + (1#64 <<< shN (BitVec.ofNat 64 r1))))) rfl rfl (by rfl) (by intro x hx; go_simp; (first | done | exact rfl)) ?_
        simp only [List.set_cons_succ, List.set_cons_zero]
        refine lin_done ?_
        intro W7 hx
        replace HS := hid hx
        clear hx
        -- region 5
        go_upto_region 5 with fail
        refine lin_begin (St w []) rfl HS.out ?_
        refine lin_val (i := 0) (v := .int .i64 ((r1 : Nat) : Int)) rfl rfl (by rfl) (by intro x hx; go_simp; (first | done | exact rfl)) ?_
        simp only [List.set_cons_succ, List.set_cons_zero]
        refine lin_val (i := 1) (v := .int .i64 ((r1 + 1 : Nat) : Int)) rfl rfl (by rfl) (by intro x hx; go_simp; (first | done | exact addN r1 1 (by omega) | exact congrArg _ (addN r1 1 (by omega)) | (rw [addN r1 1 (by omega)]; done) | (rw [addN r1 1 (by omega)]; rfl))) ?_
        simp only [List.set_cons_succ, List.set_cons_zero]
        refine lin_val (i := 2) (v := .int .i64 ((r1 + 1 : Nat) : Int)) rfl rfl (by rfl) (by intro x hx; go_simp; (first | done | exact rfl)) ?_
        simp only [List.set_cons_succ, List.set_cons_zero]
        refine lin_done ?_
        intro W8 hx
        replace HS := hid hx
        clear hx
        go_wp2
        rw [blm_t (h := (x0 * 14029467366897019727#64)) (k := r1) (by unfold blC; rw [h1.out, h2.out]; rfl)]
        exact ⟨hlt1, hid ⟨_, _, _, _, _, _, _, _, _, _, _, _, _, _, _, _, _, _, _, _, _, _, _, _, _, _, _, _, _, _, rfl, HS.out⟩⟩
    · replace h1 := hid h1
      refine lin_no (i := 5) rfl rfl (by kernel_rfl) ?_
      simp only [List.set_cons_succ, List.set_cons_zero]
      refine lin_no (i := 6) rfl rfl (by kernel_rfl) ?_
      simp only [List.set_cons_succ, List.set_cons_zero]
      refine lin_no (i := 7) rfl rfl (by kernel_rfl) ?_
      simp only [List.set_cons_succ, List.set_cons_zero]
      refine lin_no (i := 8) rfl rfl (by kernel_rfl) ?_
      simp only [List.set_cons_succ, List.set_cons_zero]
      refine lin_no (i := 9) rfl rfl (by kernel_rfl) ?_
      simp only [List.set_cons_succ, List.set_cons_zero]
      refine lin_val (i := 10) (v := .bool true) rfl rfl (by rfl) (by intro x hx; go_simp; (first | done | exact rfl)) ?_
      simp only [List.set_cons_succ, List.set_cons_zero]
      refine lin_val (i := 11) (v := .bool true) rfl rfl (by rfl) (by intro x hx; go_simp; (first | done | exact rfl)) ?_
      simp only [List.set_cons_succ, List.set_cons_zero]
      refine lin_no (i := 12) rfl rfl (by kernel_rfl) ?_
      simp only [List.set_cons_succ, List.set_cons_zero]
      refine lin_no (i := 13) rfl rfl (by kernel_rfl) ?_
      simp only [List.set_cons_succ, List.set_cons_zero]
      refine lin_no (i := 14) rfl rfl (by kernel_rfl) ?_
      simp only [List.set_cons_succ, List.set_cons_zero]
      refine lin_no (i := 15) rfl rfl (by kernel_rfl) ?_
      simp only [List.set_cons_succ, List.set_cons_zero]
      refine lin_no (i := 16) rfl rfl (by kernel_rfl) ?_
      simp only [List.set_cons_succ, List.set_cons_zero]
      refine lin_val (i := 17) (v := .bool true) rfl rfl (by rfl) (by intro x hx; go_simp; (first | done | exact rfl)) ?_
      simp only [List.set_cons_succ, List.set_cons_zero]
      refine lin_done ?_
      intro W6 hx
      replace HS := hid hx
      clear hx
      -- region 8
      go_upto_region 8 with fail
      refine lin_begin (St w []) rfl HS.out ?_
      refine lin_val (i := 0) (v := .int .u64 (tn (blm (x0 * 14029467366897019727#64) r1))) rfl rfl (by rfl) (by intro x hx; go_simp; (first | done | exact rfl)) ?_
      simp only [List.set_cons_succ, List.set_cons_zero]
      refine lin_val (i := 1) (v := .int .i64 ((r1 : Nat) : Int)) rfl rfl (by rfl) (by intro x hx; go_simp; (first | done | exact rfl)) ?_
      simp only [List.set_cons_succ, List.set_cons_zero]
      refine lin_val (i := 2) (v := .int .u64 (tn (BitVec.ofNat 64 r1))) rfl rfl (by rfl) (by intro x hx; go_simp; (first | done | exact toU r1 | exact congrArg _ (toU r1) | (rw [toU r1]; done) | (rw [toU r1]; rfl))) ?_
      simp only [List.set_cons_succ, List.set_cons_zero]
      refine lin_val (i := 3) (v := .int .u64 (tn (1#64 <<< shN (BitVec.ofNat 64 r1)))) rfl rfl (by rfl) (by intro x hx; have hy := tn_lo (BitVec.ofNat 64 r1); generalize (BitVec.ofNat 64 r1) = yy at hy ⊢; go_simp; (first | done | exact shl1U yy hy | exact shlUUr 1#64 yy hy | exact shlUU 1#64 yy hy | exact congrArg _ (shlUU 1#64 yy hy) | (rw [shlUU 1#64 yy hy]; done) | (rw [shlUU 1#64 yy hy]; rfl))) ?_
      simp only [List.set_cons_succ, List.set_cons_zero]
      refine lin_val (i := 4) (v := .int .u64 (tn ((blm (x0 * 14029467366897019727#64) r1) + (1#64 <<< shN (BitVec.ofNat 64 r1))))) rfl rfl (by rfl) (by intro x hx; go_simp; (first | done | exact addUT (blm (x0 * 14029467366897019727#64) r1) (1#64 <<< shN (BitVec.ofNat 64 r1)) | exact congrArg _ (addUT (blm (x0 * 14029467366897019727#64) r1) (1#64 <<< shN (BitVec.ofNat 64 r1))) | (rw [addUT (blm (x0 * 14029467366897019727#64) r1) (1#64 <<< shN (BitVec.ofNat 64 r1))]; done) | (rw [addUT (blm (x0 * 14029467366897019727#64) r1) (1#64 <<< shN (BitVec.ofNat 64 r1))]; rfl))) ?_
      simp only [List.set_cons_succ, List.set_cons_zero]
      refine lin_val (i := 5) (v := .int .u64 (tn ((blm (x0 * 14029467366897019727#64) r1) + (1#64 <<< shN (BitVec.ofNat 64 r1))))) rfl rfl (by rfl) (by intro x hx; go_simp; (first | done | exact rfl)) ?_
      simp only [List.set_cons_succ, List.set_cons_zero]
      refine lin_done ?_
      intro W7 hx
      replace HS := hid hx
      clear hx
      -- region 5
      go_upto_region 5 with fail
      refine lin_begin (St w []) rfl HS.out ?_
      refine lin_val (i := 0) (v := .int .i64 ((r1 : Nat) : Int)) rfl rfl (by rfl) (by intro x hx; go_simp; (first | done | exact rfl)) ?_
      simp only [List.set_cons_succ, List.set_cons_zero]
      refine lin_val (i := 1) (v := .int .i64 ((r1 + 1 : Nat) : Int)) rfl rfl (by rfl) (by intro x hx; go_simp; (first | done | exact addN r1 1 (by omega) | exact congrArg _ (addN r1 1 (by omega)) | (rw [addN r1 1 (by omega)]; done) | (rw [addN r1 1 (by omega)]; rfl))) ?_
      simp only [List.set_cons_succ, List.set_cons_zero]
      refine lin_val (i := 2) (v := .int .i64 ((r1 + 1 : Nat) : Int)) rfl rfl (by rfl) (by intro x hx; go_simp; (first | done | exact rfl)) ?_
      simp only [List.set_cons_succ, List.set_cons_zero]
      refine lin_done ?_
      intro W8 hx
      replace HS := hid hx
      clear hx
      go_wp2
      rw [blm_t (h := (x0 * 14029467366897019727#64)) (k := r1) (by unfold blC; rw [h1.out]; rfl)]
      exact ⟨hlt1, hid ⟨_, _, _, _, _, _, _, _, _, _, _, _, _, _, _, _, _, _, _, _, _, _, _, _, _, _, _, _, _, _, rfl, HS.out⟩⟩
  · have hN1 := hid (show r1 = 64 by omega)
    -- region 4
    go_upto_region 4 with fail
    refine lin_begin (St w []) rfl HS.out ?_
    refine lin_val (i := 0) (v := .int .i64 ((r1 : Nat) : Int)) rfl rfl (by rfl) (by intro x hx; go_simp; (first | done | exact rfl)) ?_
    simp only [List.set_cons_succ, List.set_cons_zero]
    refine lin_val (i := 1) (v := .bool false) rfl rfl (by rfl) (by intro x hx; go_simp; (first | done | omega | (simp; omega))) ?_
    simp only [List.set_cons_succ, List.set_cons_zero]
    refine lin_done ?_
    intro W4 hx
    replace HS := hid hx
    clear hx
    -- region 9
    go_upto_region 9 with fail
    refine lin_begin (St w []) rfl HS.out ?_
    refine lin_val (i := 0) (v := .int .u64 (tn (x0))) rfl rfl (by rfl) (by intro x hx; go_simp; (first | done | exact rfl)) ?_
    simp only [List.set_cons_succ, List.set_cons_zero]
    refine lin_val (i := 1) (v := .int .i64 (ti (x1))) rfl rfl (by rfl) (by intro x hx; go_simp; (first | done | exact rfl)) ?_
    simp only [List.set_cons_succ, List.set_cons_zero]
    refine lin_call (i := 2) (f := 20) (args := #[.int .u64 (tn (x0)), .int .i64 (ti (x1))]) (v := .int .i64 (ti (ref_Bucket x0 x1))) (st_ups _ _) rfl rfl (by rfl) (fun x hx => by kernel_rfl) (by intro x hx; exact ref_Bucket_any x0 x1 _) ?_
    simp only [List.set_cons_succ, List.set_cons_zero]
    refine lin_val (i := 3) (v := .int .u64 (tn (blm (x0 * 14029467366897019727#64) r1))) rfl rfl (by rfl) (by intro x hx; go_simp; (first | done | exact rfl)) ?_
    simp only [List.set_cons_succ, List.set_cons_zero]
    refine lin_val (i := 4) (v := .int .i64 (ti (ref_Bucket x0 x1))) rfl rfl (by rfl) (by intro x hx; go_simp; (first | done | exact rfl)) ?_
    simp only [List.set_cons_succ, List.set_cons_zero]
    refine lin_val (i := 5) (v := .int .u64 (tn (blm (x0 * 14029467366897019727#64) r1))) rfl rfl (by rfl) (by intro x hx; go_simp; (first | done | exact rfl)) ?_
    simp only [List.set_cons_succ, List.set_cons_zero]
    refine lin_done ?_
    intro W5 hx
    replace HS := hid hx
    clear hx
    go_wp2
    exact bodyPost_ret (v := .tuple #[.int .i64 (ti (ref_Bucket x0 x1)), .int .u64 (tn (blm (x0 * 14029467366897019727#64) r1))]) (by simp [results, Tryd.results14, go_sem]) rfl ⟨(by rw [hN1.out, refBloom_eq]), HS.out.below⟩
end Go.Proofs.YtejcjjimhaokfaaDoor.Dcl
