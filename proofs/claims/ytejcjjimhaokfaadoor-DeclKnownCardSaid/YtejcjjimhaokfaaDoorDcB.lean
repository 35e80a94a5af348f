/-
  The contract of decl's Bloom.
-/
import Derived.Test.YtejcjjimhaokfaaDoorDcA
namespace Go.Proofs.YtejcjjimhaokfaaDoor.Dcl
open Go.RowKit Go.Proofs.YtejcjjimhaokfaaDoor.Num Go.Proofs.YtejcjjimhaokfaaDoor.Up Go.Proofs.YtejcjjimhaokfaaDoor.Tn
def decl_Bloom (x0 : BitVec 64) (x1 : BitVec 64)  : BitVec 64 × BitVec 64 :=
  (decl_Bucket x0 x1, ((1#64 <<< shN ((x0 * 14029467366897019727#64) >>> (58#64).toNat)) ||| (1#64 <<< shN (((x0 * 14029467366897019727#64) >>> (52#64).toNat) % 64#64))) ||| (1#64 <<< shN (((x0 * 14029467366897019727#64) >>> (46#64).toNat) % 64#64)))
set_option maxRecDepth 100000 in
set_option maxHeartbeats 1000000 in
theorem decl_Bloom_any (x0 : BitVec 64) (x1 : BitVec 64)    (w : World) :
    Calls Tryd.prog 13 #[.int .u64 (tn (x0)), .int .i64 (ti (x1))] w fun e w' => e = .returned (.tuple #[.int .i64 (ti ((decl_Bloom x0 x1).1)), .int .u64 (tn ((decl_Bloom x0 x1).2))]) ∧ Below w.heap.size w w' := by
  go_enter Tryd.func13, Tryd.ntmps13
  have HS := hid (st_nil w)
  -- region 1
  go_upto_region 1 with fail
  refine lin_begin (St w []) rfl HS.out ?_
  refine lin_val (i := 0) (v := .int .u64 (tn (x0))) rfl rfl (by rfl) (by intro x hx; go_simp; (first | done | exact rfl)) ?_
  simp only [List.set_cons_succ, List.set_cons_zero]
  refine lin_val (i := 1) (v := .int .u64 (tn (x0 * 14029467366897019727#64))) rfl rfl (by rfl) (by intro x hx; go_simp; (first | done | exact mulUT x0 14029467366897019727#64 | exact congrArg _ (mulUT x0 14029467366897019727#64) | (rw [mulUT x0 14029467366897019727#64]; done) | (rw [mulUT x0 14029467366897019727#64]; rfl))) ?_
  simp only [List.set_cons_succ, List.set_cons_zero]
  refine lin_val (i := 2) (v := .int .u64 (tn (x0 * 14029467366897019727#64))) rfl rfl (by rfl) (by intro x hx; go_simp; (first | done | exact rfl)) ?_
  simp only [List.set_cons_succ, List.set_cons_zero]
  refine lin_done ?_
  intro W1 hx
  replace HS := hid hx
  clear hx
  -- region 2
  go_upto_region 2 with fail
  refine lin_begin (St w []) rfl HS.out ?_
  refine lin_val (i := 0) (v := .int .u64 (tn (x0))) rfl rfl (by rfl) (by intro x hx; go_simp; (first | done | exact rfl)) ?_
  simp only [List.set_cons_succ, List.set_cons_zero]
  refine lin_val (i := 1) (v := .int .i64 (ti (x1))) rfl rfl (by rfl) (by intro x hx; go_simp; (first | done | exact rfl)) ?_
  simp only [List.set_cons_succ, List.set_cons_zero]
  refine lin_call (i := 2) (f := 19) (args := #[.int .u64 (tn (x0)), .int .i64 (ti (x1))]) (v := .int .i64 (ti (decl_Bucket x0 x1))) (st_ups _ _) rfl rfl (by rfl) (fun x hx => by kernel_rfl) (by intro x hx; exact decl_Bucket_any x0 x1 _) ?_
  simp only [List.set_cons_succ, List.set_cons_zero]
  refine lin_val (i := 3) (v := .int .u64 (tn (x0 * 14029467366897019727#64))) rfl rfl (by rfl) (by intro x hx; go_simp; (first | done | exact rfl)) ?_
  simp only [List.set_cons_succ, List.set_cons_zero]
  refine lin_val (i := 4) (v := .int .u64 (tn ((x0 * 14029467366897019727#64) >>> (58#64).toNat))) rfl rfl (by rfl) (by intro x hx; have hy := tn_lo 58#64; go_simp; (first | done | exact shrUU (x0 * 14029467366897019727#64) 58#64 hy | exact congrArg _ (shrUU (x0 * 14029467366897019727#64) 58#64 hy) | (rw [shrUU (x0 * 14029467366897019727#64) 58#64 hy]; done) | (rw [shrUU (x0 * 14029467366897019727#64) 58#64 hy]; rfl))) ?_
  simp only [List.set_cons_succ, List.set_cons_zero]
  refine lin_val (i := 5) (v := .int .u64 (tn (1#64 <<< shN ((x0 * 14029467366897019727#64) >>> (58#64).toNat)))) rfl rfl (by rfl) (by intro x hx; have hy := tn_lo ((x0 * 14029467366897019727#64) >>> (58#64).toNat); generalize ((x0 * 14029467366897019727#64) >>> (58#64).toNat) = yy at hy ⊢; go_simp; (first | done | exact shl1U yy hy | exact shlUUr 1#64 yy hy | exact shlUU 1#64 yy hy | exact congrArg _ (shlUU 1#64 yy hy) | (rw [shlUU 1#64 yy hy]; done) | (rw [shlUU 1#64 yy hy]; rfl))) ?_
  simp only [List.set_cons_succ, List.set_cons_zero]
  refine lin_val (i := 6) (v := .int .u64 (tn (x0 * 14029467366897019727#64))) rfl rfl (by rfl) (by intro x hx; go_simp; (first | done | exact rfl)) ?_
  simp only [List.set_cons_succ, List.set_cons_zero]
  refine lin_val (i := 7) (v := .int .u64 (tn ((x0 * 14029467366897019727#64) >>> (52#64).toNat))) rfl rfl (by rfl) (by intro x hx; have hy := tn_lo 52#64; go_simp; (first | done | exact shrUU (x0 * 14029467366897019727#64) 52#64 hy | exact congrArg _ (shrUU (x0 * 14029467366897019727#64) 52#64 hy) | (rw [shrUU (x0 * 14029467366897019727#64) 52#64 hy]; done) | (rw [shrUU (x0 * 14029467366897019727#64) 52#64 hy]; rfl))) ?_
  simp only [List.set_cons_succ, List.set_cons_zero]
  refine lin_val (i := 8) (v := .int .u64 (tn (((x0 * 14029467366897019727#64) >>> (52#64).toNat) % 64#64))) rfl rfl (by rfl) (by intro x hx; go_simp; (first | done | exact remUT ((x0 * 14029467366897019727#64) >>> (52#64).toNat) 64#64 | exact congrArg _ (remUT ((x0 * 14029467366897019727#64) >>> (52#64).toNat) 64#64) | (rw [remUT ((x0 * 14029467366897019727#64) >>> (52#64).toNat) 64#64]; done) | (rw [remUT ((x0 * 14029467366897019727#64) >>> (52#64).toNat) 64#64]; rfl))) ?_
  simp only [List.set_cons_succ, List.set_cons_zero]
  refine lin_val (i := 9) (v := .int .u64 (tn (1#64 <<< shN (((x0 * 14029467366897019727#64) >>> (52#64).toNat) % 64#64)))) rfl rfl (by rfl) (by intro x hx; have hy := tn_lo (((x0 * 14029467366897019727#64) >>> (52#64).toNat) % 64#64); generalize (((x0 * 14029467366897019727#64) >>> (52#64).toNat) % 64#64) = yy at hy ⊢; go_simp; (first | done | exact shl1U yy hy | exact shlUUr 1#64 yy hy | exact shlUU 1#64 yy hy | exact congrArg _ (shlUU 1#64 yy hy) | (rw [shlUU 1#64 yy hy]; done) | (rw [shlUU 1#64 yy hy]; rfl))) ?_
  simp only [List.set_cons_succ, List.set_cons_zero]
  refine lin_val (i := 10) (v := .int .u64 (tn ((1#64 <<< shN ((x0 * 14029467366897019727#64) >>> (58#64).toNat)) ||| (1#64 <<< shN (((x0 * 14029467366897019727#64) >>> (52#64).toNat) % 64#64))))) rfl rfl (by rfl) (by intro x hx; go_simp; (first | done | exact orUT (1#64 <<< shN ((x0 * 14029467366897019727#64) >>> (58#64).toNat)) (1#64 <<< shN (((x0 * 14029467366897019727#64) >>> (52#64).toNat) % 64#64)) | exact congrArg _ (orUT (1#64 <<< shN ((x0 * 14029467366897019727#64) >>> (58#64).toNat)) (1#64 <<< shN (((x0 * 14029467366897019727#64) >>> (52#64).toNat) % 64#64))) | (rw [orUT (1#64 <<< shN ((x0 * 14029467366897019727#64) >>> (58#64).toNat)) (1#64 <<< shN (((x0 * 14029467366897019727#64) >>> (52#64).toNat) % 64#64))]; done) | (rw [orUT (1#64 <<< shN ((x0 * 14029467366897019727#64) >>> (58#64).toNat)) (1#64 <<< shN (((x0 * 14029467366897019727#64) >>> (52#64).toNat) % 64#64))]; rfl))) ?_
  simp only [List.set_cons_succ, List.set_cons_zero]
  refine lin_val (i := 11) (v := .int .u64 (tn (x0 * 14029467366897019727#64))) rfl rfl (by rfl) (by intro x hx; go_simp; (first | done | exact rfl)) ?_
  simp only [List.set_cons_succ, List.set_cons_zero]
  refine lin_val (i := 12) (v := .int .u64 (tn ((x0 * 14029467366897019727#64) >>> (46#64).toNat))) rfl rfl (by rfl) (by intro x hx; have hy := tn_lo 46#64; go_simp; (first | done | exact shrUU (x0 * 14029467366897019727#64) 46#64 hy | exact congrArg _ (shrUU (x0 * 14029467366897019727#64) 46#64 hy) | (rw [shrUU (x0 * 14029467366897019727#64) 46#64 hy]; done) | (rw [shrUU (x0 * 14029467366897019727#64) 46#64 hy]; rfl))) ?_
  simp only [List.set_cons_succ, List.set_cons_zero]
  refine lin_val (i := 13) (v := .int .u64 (tn (((x0 * 14029467366897019727#64) >>> (46#64).toNat) % 64#64))) rfl rfl (by rfl) (by intro x hx; go_simp; (first | done | exact remUT ((x0 * 14029467366897019727#64) >>> (46#64).toNat) 64#64 | exact congrArg _ (remUT ((x0 * 14029467366897019727#64) >>> (46#64).toNat) 64#64) | (rw [remUT ((x0 * 14029467366897019727#64) >>> (46#64).toNat) 64#64]; done) | (rw [remUT ((x0 * 14029467366897019727#64) >>> (46#64).toNat) 64#64]; rfl))) ?_
  simp only [List.set_cons_succ, List.set_cons_zero]
  refine lin_val (i := 14) (v := .int .u64 (tn (1#64 <<< shN (((x0 * 14029467366897019727#64) >>> (46#64).toNat) % 64#64)))) rfl rfl (by rfl) (by intro x hx; have hy := tn_lo (((x0 * 14029467366897019727#64) >>> (46#64).toNat) % 64#64); generalize (((x0 * 14029467366897019727#64) >>> (46#64).toNat) % 64#64) = yy at hy ⊢; go_simp; (first | done | exact shl1U yy hy | exact shlUUr 1#64 yy hy | exact shlUU 1#64 yy hy | exact congrArg _ (shlUU 1#64 yy hy) | (rw [shlUU 1#64 yy hy]; done) | (rw [shlUU 1#64 yy hy]; rfl))) ?_
  simp only [List.set_cons_succ, List.set_cons_zero]
  refine lin_val (i := 15) (v := .int .u64 (tn (((1#64 <<< shN ((x0 * 14029467366897019727#64) >>> (58#64).toNat)) ||| (1#64 <<< shN (((x0 * 14029467366897019727#64) >>> (52#64).toNat) % 64#64))) ||| (1#64 <<< shN (((x0 * 14029467366897019727#64) >>> (46#64).toNat) % 64#64))))) rfl rfl (by rfl) (by intro x hx; go_simp; (first | done | exact orUT ((1#64 <<< shN ((x0 * 14029467366897019727#64) >>> (58#64).toNat)) ||| (1#64 <<< shN (((x0 * 14029467366897019727#64) >>> (52#64).toNat) % 64#64))) (1#64 <<< shN (((x0 * 14029467366897019727#64) >>> (46#64).toNat) % 64#64)) | exact congrArg _ (orUT ((1#64 <<< shN ((x0 * 14029467366897019727#64) >>> (58#64).toNat)) ||| (1#64 <<< shN (((x0 * 14029467366897019727#64) >>> (52#64).toNat) % 64#64))) (1#64 <<< shN (((x0 * 14029467366897019727#64) >>> (46#64).toNat) % 64#64))) | (rw [orUT ((1#64 <<< shN ((x0 * 14029467366897019727#64) >>> (58#64).toNat)) ||| (1#64 <<< shN (((x0 * 14029467366897019727#64) >>> (52#64).toNat) % 64#64))) (1#64 <<< shN (((x0 * 14029467366897019727#64) >>> (46#64).toNat) % 64#64))]; done) | (rw [orUT ((1#64 <<< shN ((x0 * 14029467366897019727#64) >>> (58#64).toNat)) ||| (1#64 <<< shN (((x0 * 14029467366897019727#64) >>> (52#64).toNat) % 64#64))) (1#64 <<< shN (((x0 * 14029467366897019727#64) >>> (46#64).toNat) % 64#64))]; rfl))) ?_
  simp only [List.set_cons_succ, List.set_cons_zero]
  refine lin_val (i := 16) (v := .int .i64 (ti (decl_Bucket x0 x1))) rfl rfl (by rfl) (by intro x hx; go_simp; (first | done | exact rfl)) ?_
  simp only [List.set_cons_succ, List.set_cons_zero]
  refine lin_val (i := 17) (v := .int .u64 (tn (((1#64 <<< shN ((x0 * 14029467366897019727#64) >>> (58#64).toNat)) ||| (1#64 <<< shN (((x0 * 14029467366897019727#64) >>> (52#64).toNat) % 64#64))) ||| (1#64 <<< shN (((x0 * 14029467366897019727#64) >>> (46#64).toNat) % 64#64))))) rfl rfl (by rfl) (by intro x hx; go_simp; (first | done | exact rfl)) ?_
  simp only [List.set_cons_succ, List.set_cons_zero]
  refine lin_done ?_
  intro W2 hx
  replace HS := hid hx
  clear hx
  go_wp2
  have HF : decl_Bloom x0 x1 = (decl_Bucket x0 x1, ((1#64 <<< shN ((x0 * 14029467366897019727#64) >>> (58#64).toNat)) ||| (1#64 <<< shN (((x0 * 14029467366897019727#64) >>> (52#64).toNat) % 64#64))) ||| (1#64 <<< shN (((x0 * 14029467366897019727#64) >>> (46#64).toNat) % 64#64))) := by
    unfold decl_Bloom
    rfl
  exact bodyPost_ret (v := .tuple #[.int .i64 (ti (decl_Bucket x0 x1)), .int .u64 (tn (((1#64 <<< shN ((x0 * 14029467366897019727#64) >>> (58#64).toNat)) ||| (1#64 <<< shN (((x0 * 14029467366897019727#64) >>> (52#64).toNat) % 64#64))) ||| (1#64 <<< shN (((x0 * 14029467366897019727#64) >>> (46#64).toNat) % 64#64))))]) (by simp [results, Tryd.results13, go_sem]) rfl ⟨(by first | (rw [HF]; done) | (rw [HF]; rfl)), HS.out.below⟩
end Go.Proofs.YtejcjjimhaokfaaDoor.Dcl
