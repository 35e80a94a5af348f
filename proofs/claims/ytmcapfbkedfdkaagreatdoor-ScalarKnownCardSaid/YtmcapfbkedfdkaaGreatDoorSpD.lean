/-
  The contract of math/bits' Len64.
-/
import Derived.Deep.DeepCutAuto
import Derived.Test.YtmcapfbkedfdkaaGreatDoorSpCb
import Derived.Test.YtmcapfbkedfdkaaGreatDoorSpL
namespace Go.Proofs.YtmcapfbkedfdkaaGreatDoor.Sp
open Go.RowKit Go.Proofs.YtmcapfbkedfdkaaGreatDoor.Num Go.Proofs.YtmcapfbkedfdkaaGreatDoor.Up
def bits_Len64 (x0 : BitVec 64)  : BitVec 64 :=
 bif geU x0 4294967296#64 then (bif geU (x0 >>> (32#64).toNat) 65536#64 then (bif geU ((x0 >>> (32#64).toNat) >>> (16#64).toNat) 256#64 then (56#64 + (BitVec.setWidth 64 (len8 (BitVec.setWidth 8 (((x0 >>> (32#64).toNat) >>> (16#64).toNat) >>> (8#64).toNat))))) else (48#64 + (BitVec.setWidth 64 (len8 (BitVec.setWidth 8 ((x0 >>> (32#64).toNat) >>> (16#64).toNat)))))) else (bif geU (x0 >>> (32#64).toNat) 256#64 then (40#64 + (BitVec.setWidth 64 (len8 (BitVec.setWidth 8 ((x0 >>> (32#64).toNat) >>> (8#64).toNat))))) else (32#64 + (BitVec.setWidth 64 (len8 (BitVec.setWidth 8 (x0 >>> (32#64).toNat))))))) else (bif geU x0 65536#64 then (bif geU (x0 >>> (16#64).toNat) 256#64 then (24#64 + (BitVec.setWidth 64 (len8 (BitVec.setWidth 8 ((x0 >>> (16#64).toNat) >>> (8#64).toNat))))) else (16#64 + (BitVec.setWidth 64 (len8 (BitVec.setWidth 8 (x0 >>> (16#64).toNat)))))) else (bif geU x0 256#64 then (8#64 + (BitVec.setWidth 64 (len8 (BitVec.setWidth 8 (x0 >>> (8#64).toNat))))) else (0#64 + (BitVec.setWidth 64 (len8 (BitVec.setWidth 8 x0))))))
set_option maxRecDepth 100000 in
set_option maxHeartbeats 1000000 in
theorem bits_Len64_any (x0 : BitVec 64)   (w : World) :
   Calls Tryz.prog 123 #[.int .u64 (tn (x0))] w fun e w' => e = .returned (.int .i64 (ti (bits_Len64 x0))) ∧ Below w.heap.size w w' := by
 go_enter Tryz.func123, Tryz.ntmps123
 have HS : Hid (St w [] _) := hid (st_nil w)
 go_upto_region 1 with fail
 refine lnb HS.out rfl ?_
 refine lm 0 0 rfl rfl rfl rfl ?_
 simp only [sA, sB]
 refine lv 1 (.bool (geU x0 4294967296#64)) rfl rfl (by intro x hx; go_simp; (first | done | exact geUT x0 4294967296#64 | exact congrArg _ (geUT x0 4294967296#64) | (rw [geUT x0 4294967296#64]; done) | (rw [geUT x0 4294967296#64]; rfl))) ?_
 simp only [sA, sB]
 clear HS
 refine ld fun W1 HS => ?_
 cases h1 : (geU x0 4294967296#64)
 ·replace h1 := hid h1
  go_upto_region 4 with fail
  refine lnb HS.out rfl ?_
  refine lm 0 0 rfl rfl rfl rfl ?_
  simp only [sA, sB]
  refine lv 1 (.bool (geU x0 65536#64)) rfl rfl (by intro x hx; go_simp; (first | done | exact geUT x0 65536#64 | exact congrArg _ (geUT x0 65536#64) | (rw [geUT x0 65536#64]; done) | (rw [geUT x0 65536#64]; rfl))) ?_
  simp only [sA, sB]
  clear HS
  refine ld fun W2 HS => ?_
  cases h2 : (geU x0 65536#64)
  ·replace h2 := hid h2
   go_upto_region 7 with fail
   refine lnb HS.out rfl ?_
   refine lm 0 0 rfl rfl rfl rfl ?_
   simp only [sA, sB]
   refine lv 1 (.bool (geU x0 256#64)) rfl rfl (by intro x hx; go_simp; (first | done | exact geUT x0 256#64 | exact congrArg _ (geUT x0 256#64) | (rw [geUT x0 256#64]; done) | (rw [geUT x0 256#64]; rfl))) ?_
   simp only [sA, sB]
   clear HS
   refine ld fun W3 HS => ?_
   cases h3 : (geU x0 256#64)
   ·replace h3 := hid h3
    go_upto_region 10 with fail
    refine lnb HS.out rfl ?_
    refine lm 0 2 rfl rfl rfl rfl ?_
    simp only [sA, sB]
    refine lm 1 0 rfl rfl rfl rfl ?_
    simp only [sA, sB]
    refine lv 2 (.int .u8 (tn (BitVec.setWidth 8 x0))) rfl rfl (by intro x hx; go_simp; (first | done | exact cut8U64 x0 | exact congrArg _ (cut8U64 x0) | (rw [cut8U64 x0]; done) | (rw [cut8U64 x0]; rfl))) ?_
    simp only [sA, sB]
    refine lv 3 (.int .u8 (tn (len8 (BitVec.setWidth 8 x0)))) rfl rfl (by intro x hx; go_simp; (first | done | (rw [dif_pos ⟨tn_lo _, lt8 _⟩]; exact congrArg (fun v => Result.ok (Next.value (Value.int .u8 v)) x) (len8_tab _ _)))) ?_
    simp only [sA, sB]
    refine lv 4 (.int .i64 (ti (BitVec.setWidth 64 (len8 (BitVec.setWidth 8 x0))))) rfl rfl (by intro x hx; go_simp; (first | done | exact wide8I (len8 (BitVec.setWidth 8 x0)) | exact congrArg _ (wide8I (len8 (BitVec.setWidth 8 x0))) | (rw [wide8I (len8 (BitVec.setWidth 8 x0))]; done) | (rw [wide8I (len8 (BitVec.setWidth 8 x0))]; rfl))) ?_
    simp only [sA, sB]
    refine lv 5 (.int .i64 (ti (0#64 + (BitVec.setWidth 64 (len8 (BitVec.setWidth 8 x0)))))) rfl rfl (by intro x hx; exact (show _ = Result.ok (Next.value (.int .i64 (IntKind.i64.wrap ((0 : Int) + (ti (BitVec.setWidth 64 (len8 (BitVec.setWidth 8 x0)))))))) x by kernel_rfl).trans (by rw [show (0 : Int) = ti 0#64 from by decide, addIT 0#64 (BitVec.setWidth 64 (len8 (BitVec.setWidth 8 x0)))])) ?_
    simp only [sA, sB]
    refine la 6 24 rfl rfl rfl rfl ?_
    simp only [sA, sB]
    clear HS
    refine ld fun W4 HS => ?_
    go_wp2
    have HF : bits_Len64 x0 = 0#64 + (BitVec.setWidth 64 (len8 (BitVec.setWidth 8 x0))) := by
      unfold bits_Len64
      rw [cond_f h1.out, cond_f h2.out, cond_f h3.out]
    exact bodyPost_ret (v := .int .i64 (ti (0#64 + (BitVec.setWidth 64 (len8 (BitVec.setWidth 8 x0)))))) (by simp [results, Tryz.results123, go_sem]) rfl ⟨(by first | (rw [HF]; done) | (rw [HF]; rfl)), HS.out.below⟩
   ·replace h3 := hid h3
    go_upto_region 8 with fail
    refine lnb HS.out rfl ?_
    refine lm 0 0 rfl rfl rfl rfl ?_
    simp only [sA, sB]
    refine lv 1 (.int .u64 (tn (x0 >>> (8#64).toNat))) rfl rfl (by intro x hx; have hy := tn_lo 8#64; go_simp; (first | done | exact shrUU x0 8#64 hy | exact congrArg _ (shrUU x0 8#64 hy) | (rw [shrUU x0 8#64 hy]; done) | (rw [shrUU x0 8#64 hy]; rfl))) ?_
    simp only [sA, sB]
    refine la 2 16 rfl rfl rfl rfl ?_
    simp only [sB]
    clear HS
    refine ld fun W4 HS => ?_
    go_upto_region 9 with fail
    refine lnb HS.out rfl ?_
    refine lm 0 2 rfl rfl rfl rfl ?_
    simp only [sA, sB]
    refine lv 1 (.int .i64 8) rfl rfl (by intro x hx; go_simp; all_goals exact rfl) ?_
    simp only [sA, sB]
    refine la 2 18 rfl rfl rfl rfl ?_
    simp only [sA, sB]
    clear HS
    refine ld fun W5 HS => ?_
    go_upto_region 10 with fail
    refine lnb HS.out rfl ?_
    refine lm 0 2 rfl rfl rfl rfl ?_
    simp only [sA, sB]
    refine lm 1 0 rfl rfl rfl rfl ?_
    simp only [sA, sB]
    refine lv 2 (.int .u8 (tn (BitVec.setWidth 8 (x0 >>> (8#64).toNat)))) rfl rfl (by intro x hx; go_simp; (first | done | exact cut8U64 (x0 >>> (8#64).toNat) | exact congrArg _ (cut8U64 (x0 >>> (8#64).toNat)) | (rw [cut8U64 (x0 >>> (8#64).toNat)]; done) | (rw [cut8U64 (x0 >>> (8#64).toNat)]; rfl))) ?_
    simp only [sA, sB]
    refine lv 3 (.int .u8 (tn (len8 (BitVec.setWidth 8 (x0 >>> (8#64).toNat))))) rfl rfl (by intro x hx; go_simp; (first | done | (rw [dif_pos ⟨tn_lo _, lt8 _⟩]; exact congrArg (fun v => Result.ok (Next.value (Value.int .u8 v)) x) (len8_tab _ _)))) ?_
    simp only [sA, sB]
    refine lv 4 (.int .i64 (ti (BitVec.setWidth 64 (len8 (BitVec.setWidth 8 (x0 >>> (8#64).toNat)))))) rfl rfl (by intro x hx; go_simp; (first | done | exact wide8I (len8 (BitVec.setWidth 8 (x0 >>> (8#64).toNat))) | exact congrArg _ (wide8I (len8 (BitVec.setWidth 8 (x0 >>> (8#64).toNat)))) | (rw [wide8I (len8 (BitVec.setWidth 8 (x0 >>> (8#64).toNat)))]; done) | (rw [wide8I (len8 (BitVec.setWidth 8 (x0 >>> (8#64).toNat)))]; rfl))) ?_
    simp only [sA, sB]
    refine lv 5 (.int .i64 (ti (8#64 + (BitVec.setWidth 64 (len8 (BitVec.setWidth 8 (x0 >>> (8#64).toNat))))))) rfl rfl (by intro x hx; exact (show _ = Result.ok (Next.value (.int .i64 (IntKind.i64.wrap ((8 : Int) + (ti (BitVec.setWidth 64 (len8 (BitVec.setWidth 8 (x0 >>> (8#64).toNat))))))))) x by kernel_rfl).trans (by rw [show (8 : Int) = ti 8#64 from by decide, addIT 8#64 (BitVec.setWidth 64 (len8 (BitVec.setWidth 8 (x0 >>> (8#64).toNat))))])) ?_
    simp only [sA, sB]
    refine la 6 24 rfl rfl rfl rfl ?_
    simp only [sA, sB]
    clear HS
    refine ld fun W6 HS => ?_
    go_wp2
    have HF : bits_Len64 x0 = 8#64 + (BitVec.setWidth 64 (len8 (BitVec.setWidth 8 (x0 >>> (8#64).toNat)))) := by
      unfold bits_Len64
      rw [cond_f h1.out, cond_f h2.out, cond_t h3.out]
    exact bodyPost_ret (v := .int .i64 (ti (8#64 + (BitVec.setWidth 64 (len8 (BitVec.setWidth 8 (x0 >>> (8#64).toNat))))))) (by simp [results, Tryz.results123, go_sem]) rfl ⟨(by first | (rw [HF]; done) | (rw [HF]; rfl)), HS.out.below⟩
  ·replace h2 := hid h2
   go_upto_region 5 with fail
   refine lnb HS.out rfl ?_
   refine lm 0 0 rfl rfl rfl rfl ?_
   simp only [sA, sB]
   refine lv 1 (.int .u64 (tn (x0 >>> (16#64).toNat))) rfl rfl (by intro x hx; have hy := tn_lo 16#64; go_simp; (first | done | exact shrUU x0 16#64 hy | exact congrArg _ (shrUU x0 16#64 hy) | (rw [shrUU x0 16#64 hy]; done) | (rw [shrUU x0 16#64 hy]; rfl))) ?_
   simp only [sA, sB]
   refine la 2 10 rfl rfl rfl rfl ?_
   simp only [sB]
   clear HS
   refine ld fun W3 HS => ?_
   go_upto_region 6 with fail
   refine lnb HS.out rfl ?_
   refine lm 0 2 rfl rfl rfl rfl ?_
   simp only [sA, sB]
   refine lv 1 (.int .i64 16) rfl rfl (by intro x hx; go_simp; all_goals exact rfl) ?_
   simp only [sA, sB]
   refine la 2 12 rfl rfl rfl rfl ?_
   simp only [sA, sB]
   clear HS
   refine ld fun W4 HS => ?_
   go_upto_region 7 with fail
   refine lnb HS.out rfl ?_
   refine lm 0 0 rfl rfl rfl rfl ?_
   simp only [sA, sB]
   refine lv 1 (.bool (geU (x0 >>> (16#64).toNat) 256#64)) rfl rfl (by intro x hx; go_simp; (first | done | exact geUT (x0 >>> (16#64).toNat) 256#64 | exact congrArg _ (geUT (x0 >>> (16#64).toNat) 256#64) | (rw [geUT (x0 >>> (16#64).toNat) 256#64]; done) | (rw [geUT (x0 >>> (16#64).toNat) 256#64]; rfl))) ?_
   simp only [sA, sB]
   clear HS
   refine ld fun W5 HS => ?_
   cases h3 : (geU (x0 >>> (16#64).toNat) 256#64)
   ·replace h3 := hid h3
    go_upto_region 10 with fail
    refine lnb HS.out rfl ?_
    refine lm 0 2 rfl rfl rfl rfl ?_
    simp only [sA, sB]
    refine lm 1 0 rfl rfl rfl rfl ?_
    simp only [sA, sB]
    refine lv 2 (.int .u8 (tn (BitVec.setWidth 8 (x0 >>> (16#64).toNat)))) rfl rfl (by intro x hx; go_simp; (first | done | exact cut8U64 (x0 >>> (16#64).toNat) | exact congrArg _ (cut8U64 (x0 >>> (16#64).toNat)) | (rw [cut8U64 (x0 >>> (16#64).toNat)]; done) | (rw [cut8U64 (x0 >>> (16#64).toNat)]; rfl))) ?_
    simp only [sA, sB]
    refine lv 3 (.int .u8 (tn (len8 (BitVec.setWidth 8 (x0 >>> (16#64).toNat))))) rfl rfl (by intro x hx; go_simp; (first | done | (rw [dif_pos ⟨tn_lo _, lt8 _⟩]; exact congrArg (fun v => Result.ok (Next.value (Value.int .u8 v)) x) (len8_tab _ _)))) ?_
    simp only [sA, sB]
    refine lv 4 (.int .i64 (ti (BitVec.setWidth 64 (len8 (BitVec.setWidth 8 (x0 >>> (16#64).toNat)))))) rfl rfl (by intro x hx; go_simp; (first | done | exact wide8I (len8 (BitVec.setWidth 8 (x0 >>> (16#64).toNat))) | exact congrArg _ (wide8I (len8 (BitVec.setWidth 8 (x0 >>> (16#64).toNat)))) | (rw [wide8I (len8 (BitVec.setWidth 8 (x0 >>> (16#64).toNat)))]; done) | (rw [wide8I (len8 (BitVec.setWidth 8 (x0 >>> (16#64).toNat)))]; rfl))) ?_
    simp only [sA, sB]
    refine lv 5 (.int .i64 (ti (16#64 + (BitVec.setWidth 64 (len8 (BitVec.setWidth 8 (x0 >>> (16#64).toNat))))))) rfl rfl (by intro x hx; exact (show _ = Result.ok (Next.value (.int .i64 (IntKind.i64.wrap ((16 : Int) + (ti (BitVec.setWidth 64 (len8 (BitVec.setWidth 8 (x0 >>> (16#64).toNat))))))))) x by kernel_rfl).trans (by rw [show (16 : Int) = ti 16#64 from by decide, addIT 16#64 (BitVec.setWidth 64 (len8 (BitVec.setWidth 8 (x0 >>> (16#64).toNat))))])) ?_
    simp only [sA, sB]
    refine la 6 24 rfl rfl rfl rfl ?_
    simp only [sA, sB]
    clear HS
    refine ld fun W6 HS => ?_
    go_wp2
    have HF : bits_Len64 x0 = 16#64 + (BitVec.setWidth 64 (len8 (BitVec.setWidth 8 (x0 >>> (16#64).toNat)))) := by
      unfold bits_Len64
      rw [cond_f h1.out, cond_t h2.out, cond_f h3.out]
    exact bodyPost_ret (v := .int .i64 (ti (16#64 + (BitVec.setWidth 64 (len8 (BitVec.setWidth 8 (x0 >>> (16#64).toNat))))))) (by simp [results, Tryz.results123, go_sem]) rfl ⟨(by first | (rw [HF]; done) | (rw [HF]; rfl)), HS.out.below⟩
   ·replace h3 := hid h3
    go_upto_region 8 with fail
    refine lnb HS.out rfl ?_
    refine lm 0 0 rfl rfl rfl rfl ?_
    simp only [sA, sB]
    refine lv 1 (.int .u64 (tn ((x0 >>> (16#64).toNat) >>> (8#64).toNat))) rfl rfl (by intro x hx; have hy := tn_lo 8#64; go_simp; (first | done | exact shrUU (x0 >>> (16#64).toNat) 8#64 hy | exact congrArg _ (shrUU (x0 >>> (16#64).toNat) 8#64 hy) | (rw [shrUU (x0 >>> (16#64).toNat) 8#64 hy]; done) | (rw [shrUU (x0 >>> (16#64).toNat) 8#64 hy]; rfl))) ?_
    simp only [sA, sB]
    refine la 2 16 rfl rfl rfl rfl ?_
    simp only [sB]
    clear HS
    refine ld fun W6 HS => ?_
    go_upto_region 9 with fail
    refine lnb HS.out rfl ?_
    refine lm 0 2 rfl rfl rfl rfl ?_
    simp only [sA, sB]
    refine lv 1 (.int .i64 24) rfl rfl (by intro x hx; go_simp; all_goals exact rfl) ?_
    simp only [sA, sB]
    refine la 2 18 rfl rfl rfl rfl ?_
    simp only [sA, sB]
    clear HS
    refine ld fun W7 HS => ?_
    go_upto_region 10 with fail
    refine lnb HS.out rfl ?_
    refine lm 0 2 rfl rfl rfl rfl ?_
    simp only [sA, sB]
    refine lm 1 0 rfl rfl rfl rfl ?_
    simp only [sA, sB]
    refine lv 2 (.int .u8 (tn (BitVec.setWidth 8 ((x0 >>> (16#64).toNat) >>> (8#64).toNat)))) rfl rfl (by intro x hx; go_simp; (first | done | exact cut8U64 ((x0 >>> (16#64).toNat) >>> (8#64).toNat) | exact congrArg _ (cut8U64 ((x0 >>> (16#64).toNat) >>> (8#64).toNat)) | (rw [cut8U64 ((x0 >>> (16#64).toNat) >>> (8#64).toNat)]; done) | (rw [cut8U64 ((x0 >>> (16#64).toNat) >>> (8#64).toNat)]; rfl))) ?_
    simp only [sA, sB]
    refine lv 3 (.int .u8 (tn (len8 (BitVec.setWidth 8 ((x0 >>> (16#64).toNat) >>> (8#64).toNat))))) rfl rfl (by intro x hx; go_simp; (first | done | (rw [dif_pos ⟨tn_lo _, lt8 _⟩]; exact congrArg (fun v => Result.ok (Next.value (Value.int .u8 v)) x) (len8_tab _ _)))) ?_
    simp only [sA, sB]
    refine lv 4 (.int .i64 (ti (BitVec.setWidth 64 (len8 (BitVec.setWidth 8 ((x0 >>> (16#64).toNat) >>> (8#64).toNat)))))) rfl rfl (by intro x hx; go_simp; (first | done | exact wide8I (len8 (BitVec.setWidth 8 ((x0 >>> (16#64).toNat) >>> (8#64).toNat))) | exact congrArg _ (wide8I (len8 (BitVec.setWidth 8 ((x0 >>> (16#64).toNat) >>> (8#64).toNat)))) | (rw [wide8I (len8 (BitVec.setWidth 8 ((x0 >>> (16#64).toNat) >>> (8#64).toNat)))]; done) | (rw [wide8I (len8 (BitVec.setWidth 8 ((x0 >>> (16#64).toNat) >>> (8#64).toNat)))]; rfl))) ?_
    simp only [sA, sB]
    refine lv 5 (.int .i64 (ti (24#64 + (BitVec.setWidth 64 (len8 (BitVec.setWidth 8 ((x0 >>> (16#64).toNat) >>> (8#64).toNat))))))) rfl rfl (by intro x hx; exact (show _ = Result.ok (Next.value (.int .i64 (IntKind.i64.wrap ((24 : Int) + (ti (BitVec.setWidth 64 (len8 (BitVec.setWidth 8 ((x0 >>> (16#64).toNat) >>> (8#64).toNat))))))))) x by kernel_rfl).trans (by rw [show (24 : Int) = ti 24#64 from by decide, addIT 24#64 (BitVec.setWidth 64 (len8 (BitVec.setWidth 8 ((x0 >>> (16#64).toNat) >>> (8#64).toNat))))])) ?_
    simp only [sA, sB]
    refine la 6 24 rfl rfl rfl rfl ?_
    simp only [sA, sB]
    clear HS
    refine ld fun W8 HS => ?_
    go_wp2
    have HF : bits_Len64 x0 = 24#64 + (BitVec.setWidth 64 (len8 (BitVec.setWidth 8 ((x0 >>> (16#64).toNat) >>> (8#64).toNat)))) := by
      unfold bits_Len64
      rw [cond_f h1.out, cond_t h2.out, cond_t h3.out]
    exact bodyPost_ret (v := .int .i64 (ti (24#64 + (BitVec.setWidth 64 (len8 (BitVec.setWidth 8 ((x0 >>> (16#64).toNat) >>> (8#64).toNat))))))) (by simp [results, Tryz.results123, go_sem]) rfl ⟨(by first | (rw [HF]; done) | (rw [HF]; rfl)), HS.out.below⟩
 ·replace h1 := hid h1
  go_upto_region 2 with fail
  refine lnb HS.out rfl ?_
  refine lm 0 0 rfl rfl rfl rfl ?_
  simp only [sA, sB]
  refine lv 1 (.int .u64 (tn (x0 >>> (32#64).toNat))) rfl rfl (by intro x hx; have hy := tn_lo 32#64; go_simp; (first | done | exact shrUU x0 32#64 hy | exact congrArg _ (shrUU x0 32#64 hy) | (rw [shrUU x0 32#64 hy]; done) | (rw [shrUU x0 32#64 hy]; rfl))) ?_
  simp only [sA, sB]
  refine la 2 6 rfl rfl rfl rfl ?_
  simp only [sB]
  clear HS
  refine ld fun W2 HS => ?_
  go_upto_region 3 with fail
  refine lnb HS.out rfl ?_
  refine lv 0 (.int .i64 32) rfl rfl (by intro x hx; go_simp; all_goals exact rfl) ?_
  simp only [sA, sB]
  clear HS
  refine ld fun W3 HS => ?_
  go_upto_region 4 with fail
  refine lnb HS.out rfl ?_
  refine lm 0 0 rfl rfl rfl rfl ?_
  simp only [sA, sB]
  refine lv 1 (.bool (geU (x0 >>> (32#64).toNat) 65536#64)) rfl rfl (by intro x hx; go_simp; (first | done | exact geUT (x0 >>> (32#64).toNat) 65536#64 | exact congrArg _ (geUT (x0 >>> (32#64).toNat) 65536#64) | (rw [geUT (x0 >>> (32#64).toNat) 65536#64]; done) | (rw [geUT (x0 >>> (32#64).toNat) 65536#64]; rfl))) ?_
  simp only [sA, sB]
  clear HS
  refine ld fun W4 HS => ?_
  cases h2 : (geU (x0 >>> (32#64).toNat) 65536#64)
  ·replace h2 := hid h2
   go_upto_region 7 with fail
   refine lnb HS.out rfl ?_
   refine lm 0 0 rfl rfl rfl rfl ?_
   simp only [sA, sB]
   refine lv 1 (.bool (geU (x0 >>> (32#64).toNat) 256#64)) rfl rfl (by intro x hx; go_simp; (first | done | exact geUT (x0 >>> (32#64).toNat) 256#64 | exact congrArg _ (geUT (x0 >>> (32#64).toNat) 256#64) | (rw [geUT (x0 >>> (32#64).toNat) 256#64]; done) | (rw [geUT (x0 >>> (32#64).toNat) 256#64]; rfl))) ?_
   simp only [sA, sB]
   clear HS
   refine ld fun W5 HS => ?_
   cases h3 : (geU (x0 >>> (32#64).toNat) 256#64)
   ·replace h3 := hid h3
    go_upto_region 10 with fail
    refine lnb HS.out rfl ?_
    refine lm 0 2 rfl rfl rfl rfl ?_
    simp only [sA, sB]
    refine lm 1 0 rfl rfl rfl rfl ?_
    simp only [sA, sB]
    refine lv 2 (.int .u8 (tn (BitVec.setWidth 8 (x0 >>> (32#64).toNat)))) rfl rfl (by intro x hx; go_simp; (first | done | exact cut8U64 (x0 >>> (32#64).toNat) | exact congrArg _ (cut8U64 (x0 >>> (32#64).toNat)) | (rw [cut8U64 (x0 >>> (32#64).toNat)]; done) | (rw [cut8U64 (x0 >>> (32#64).toNat)]; rfl))) ?_
    simp only [sA, sB]
    refine lv 3 (.int .u8 (tn (len8 (BitVec.setWidth 8 (x0 >>> (32#64).toNat))))) rfl rfl (by intro x hx; go_simp; (first | done | (rw [dif_pos ⟨tn_lo _, lt8 _⟩]; exact congrArg (fun v => Result.ok (Next.value (Value.int .u8 v)) x) (len8_tab _ _)))) ?_
    simp only [sA, sB]
    refine lv 4 (.int .i64 (ti (BitVec.setWidth 64 (len8 (BitVec.setWidth 8 (x0 >>> (32#64).toNat)))))) rfl rfl (by intro x hx; go_simp; (first | done | exact wide8I (len8 (BitVec.setWidth 8 (x0 >>> (32#64).toNat))) | exact congrArg _ (wide8I (len8 (BitVec.setWidth 8 (x0 >>> (32#64).toNat)))) | (rw [wide8I (len8 (BitVec.setWidth 8 (x0 >>> (32#64).toNat)))]; done) | (rw [wide8I (len8 (BitVec.setWidth 8 (x0 >>> (32#64).toNat)))]; rfl))) ?_
    simp only [sA, sB]
    refine lv 5 (.int .i64 (ti (32#64 + (BitVec.setWidth 64 (len8 (BitVec.setWidth 8 (x0 >>> (32#64).toNat))))))) rfl rfl (by intro x hx; exact (show _ = Result.ok (Next.value (.int .i64 (IntKind.i64.wrap ((32 : Int) + (ti (BitVec.setWidth 64 (len8 (BitVec.setWidth 8 (x0 >>> (32#64).toNat))))))))) x by kernel_rfl).trans (by rw [show (32 : Int) = ti 32#64 from by decide, addIT 32#64 (BitVec.setWidth 64 (len8 (BitVec.setWidth 8 (x0 >>> (32#64).toNat))))])) ?_
    simp only [sA, sB]
    refine la 6 24 rfl rfl rfl rfl ?_
    simp only [sA, sB]
    clear HS
    refine ld fun W6 HS => ?_
    go_wp2
    have HF : bits_Len64 x0 = 32#64 + (BitVec.setWidth 64 (len8 (BitVec.setWidth 8 (x0 >>> (32#64).toNat)))) := by
      unfold bits_Len64
      rw [cond_t h1.out, cond_f h2.out, cond_f h3.out]
    exact bodyPost_ret (v := .int .i64 (ti (32#64 + (BitVec.setWidth 64 (len8 (BitVec.setWidth 8 (x0 >>> (32#64).toNat))))))) (by simp [results, Tryz.results123, go_sem]) rfl ⟨(by first | (rw [HF]; done) | (rw [HF]; rfl)), HS.out.below⟩
   ·replace h3 := hid h3
    go_upto_region 8 with fail
    refine lnb HS.out rfl ?_
    refine lm 0 0 rfl rfl rfl rfl ?_
    simp only [sA, sB]
    refine lv 1 (.int .u64 (tn ((x0 >>> (32#64).toNat) >>> (8#64).toNat))) rfl rfl (by intro x hx; have hy := tn_lo 8#64; go_simp; (first | done | exact shrUU (x0 >>> (32#64).toNat) 8#64 hy | exact congrArg _ (shrUU (x0 >>> (32#64).toNat) 8#64 hy) | (rw [shrUU (x0 >>> (32#64).toNat) 8#64 hy]; done) | (rw [shrUU (x0 >>> (32#64).toNat) 8#64 hy]; rfl))) ?_
    simp only [sA, sB]
    refine la 2 16 rfl rfl rfl rfl ?_
    simp only [sB]
    clear HS
    refine ld fun W6 HS => ?_
    go_upto_region 9 with fail
    refine lnb HS.out rfl ?_
    refine lm 0 2 rfl rfl rfl rfl ?_
    simp only [sA, sB]
    refine lv 1 (.int .i64 40) rfl rfl (by intro x hx; go_simp; all_goals exact rfl) ?_
    simp only [sA, sB]
    refine la 2 18 rfl rfl rfl rfl ?_
    simp only [sA, sB]
    clear HS
    refine ld fun W7 HS => ?_
    go_upto_region 10 with fail
    refine lnb HS.out rfl ?_
    refine lm 0 2 rfl rfl rfl rfl ?_
    simp only [sA, sB]
    refine lm 1 0 rfl rfl rfl rfl ?_
    simp only [sA, sB]
    refine lv 2 (.int .u8 (tn (BitVec.setWidth 8 ((x0 >>> (32#64).toNat) >>> (8#64).toNat)))) rfl rfl (by intro x hx; go_simp; (first | done | exact cut8U64 ((x0 >>> (32#64).toNat) >>> (8#64).toNat) | exact congrArg _ (cut8U64 ((x0 >>> (32#64).toNat) >>> (8#64).toNat)) | (rw [cut8U64 ((x0 >>> (32#64).toNat) >>> (8#64).toNat)]; done) | (rw [cut8U64 ((x0 >>> (32#64).toNat) >>> (8#64).toNat)]; rfl))) ?_
    simp only [sA, sB]
    refine lv 3 (.int .u8 (tn (len8 (BitVec.setWidth 8 ((x0 >>> (32#64).toNat) >>> (8#64).toNat))))) rfl rfl (by intro x hx; go_simp; (first | done | (rw [dif_pos ⟨tn_lo _, lt8 _⟩]; exact congrArg (fun v => Result.ok (Next.value (Value.int .u8 v)) x) (len8_tab _ _)))) ?_
    simp only [sA, sB]
    refine lv 4 (.int .i64 (ti (BitVec.setWidth 64 (len8 (BitVec.setWidth 8 ((x0 >>> (32#64).toNat) >>> (8#64).toNat)))))) rfl rfl (by intro x hx; go_simp; (first | done | exact wide8I (len8 (BitVec.setWidth 8 ((x0 >>> (32#64).toNat) >>> (8#64).toNat))) | exact congrArg _ (wide8I (len8 (BitVec.setWidth 8 ((x0 >>> (32#64).toNat) >>> (8#64).toNat)))) | (rw [wide8I (len8 (BitVec.setWidth 8 ((x0 >>> (32#64).toNat) >>> (8#64).toNat)))]; done) | (rw [wide8I (len8 (BitVec.setWidth 8 ((x0 >>> (32#64).toNat) >>> (8#64).toNat)))]; rfl))) ?_
    simp only [sA, sB]
    refine lv 5 (.int .i64 (ti (40#64 + (BitVec.setWidth 64 (len8 (BitVec.setWidth 8 ((x0 >>> (32#64).toNat) >>> (8#64).toNat))))))) rfl rfl (by intro x hx; exact (show _ = Result.ok (Next.value (.int .i64 (IntKind.i64.wrap ((40 : Int) + (ti (BitVec.setWidth 64 (len8 (BitVec.setWidth 8 ((x0 >>> (32#64).toNat) >>> (8#64).toNat))))))))) x by kernel_rfl).trans (by rw [show (40 : Int) = ti 40#64 from by decide, addIT 40#64 (BitVec.setWidth 64 (len8 (BitVec.setWidth 8 ((x0 >>> (32#64).toNat) >>> (8#64).toNat))))])) ?_
    simp only [sA, sB]
    refine la 6 24 rfl rfl rfl rfl ?_
    simp only [sA, sB]
    clear HS
    refine ld fun W8 HS => ?_
    go_wp2
    have HF : bits_Len64 x0 = 40#64 + (BitVec.setWidth 64 (len8 (BitVec.setWidth 8 ((x0 >>> (32#64).toNat) >>> (8#64).toNat)))) := by
      unfold bits_Len64
      rw [cond_t h1.out, cond_f h2.out, cond_t h3.out]
    exact bodyPost_ret (v := .int .i64 (ti (40#64 + (BitVec.setWidth 64 (len8 (BitVec.setWidth 8 ((x0 >>> (32#64).toNat) >>> (8#64).toNat))))))) (by simp [results, Tryz.results123, go_sem]) rfl ⟨(by first | (rw [HF]; done) | (rw [HF]; rfl)), HS.out.below⟩
  ·replace h2 := hid h2
   go_upto_region 5 with fail
   refine lnb HS.out rfl ?_
   refine lm 0 0 rfl rfl rfl rfl ?_
   simp only [sA, sB]
   refine lv 1 (.int .u64 (tn ((x0 >>> (32#64).toNat) >>> (16#64).toNat))) rfl rfl (by intro x hx; have hy := tn_lo 16#64; go_simp; (first | done | exact shrUU (x0 >>> (32#64).toNat) 16#64 hy | exact congrArg _ (shrUU (x0 >>> (32#64).toNat) 16#64 hy) | (rw [shrUU (x0 >>> (32#64).toNat) 16#64 hy]; done) | (rw [shrUU (x0 >>> (32#64).toNat) 16#64 hy]; rfl))) ?_
   simp only [sA, sB]
   refine la 2 10 rfl rfl rfl rfl ?_
   simp only [sB]
   clear HS
   refine ld fun W5 HS => ?_
   go_upto_region 6 with fail
   refine lnb HS.out rfl ?_
   refine lm 0 2 rfl rfl rfl rfl ?_
   simp only [sA, sB]
   refine lv 1 (.int .i64 48) rfl rfl (by intro x hx; go_simp; all_goals exact rfl) ?_
   simp only [sA, sB]
   refine la 2 12 rfl rfl rfl rfl ?_
   simp only [sA, sB]
   clear HS
   refine ld fun W6 HS => ?_
   go_upto_region 7 with fail
   refine lnb HS.out rfl ?_
   refine lm 0 0 rfl rfl rfl rfl ?_
   simp only [sA, sB]
   refine lv 1 (.bool (geU ((x0 >>> (32#64).toNat) >>> (16#64).toNat) 256#64)) rfl rfl (by intro x hx; go_simp; (first | done | exact geUT ((x0 >>> (32#64).toNat) >>> (16#64).toNat) 256#64 | exact congrArg _ (geUT ((x0 >>> (32#64).toNat) >>> (16#64).toNat) 256#64) | (rw [geUT ((x0 >>> (32#64).toNat) >>> (16#64).toNat) 256#64]; done) | (rw [geUT ((x0 >>> (32#64).toNat) >>> (16#64).toNat) 256#64]; rfl))) ?_
   simp only [sA, sB]
   clear HS
   refine ld fun W7 HS => ?_
   cases h3 : (geU ((x0 >>> (32#64).toNat) >>> (16#64).toNat) 256#64)
   ·replace h3 := hid h3
    go_upto_region 10 with fail
    refine lnb HS.out rfl ?_
    refine lm 0 2 rfl rfl rfl rfl ?_
    simp only [sA, sB]
    refine lm 1 0 rfl rfl rfl rfl ?_
    simp only [sA, sB]
    refine lv 2 (.int .u8 (tn (BitVec.setWidth 8 ((x0 >>> (32#64).toNat) >>> (16#64).toNat)))) rfl rfl (by intro x hx; go_simp; (first | done | exact cut8U64 ((x0 >>> (32#64).toNat) >>> (16#64).toNat) | exact congrArg _ (cut8U64 ((x0 >>> (32#64).toNat) >>> (16#64).toNat)) | (rw [cut8U64 ((x0 >>> (32#64).toNat) >>> (16#64).toNat)]; done) | (rw [cut8U64 ((x0 >>> (32#64).toNat) >>> (16#64).toNat)]; rfl))) ?_
    simp only [sA, sB]
    refine lv 3 (.int .u8 (tn (len8 (BitVec.setWidth 8 ((x0 >>> (32#64).toNat) >>> (16#64).toNat))))) rfl rfl (by intro x hx; go_simp; (first | done | (rw [dif_pos ⟨tn_lo _, lt8 _⟩]; exact congrArg (fun v => Result.ok (Next.value (Value.int .u8 v)) x) (len8_tab _ _)))) ?_
    simp only [sA, sB]
    refine lv 4 (.int .i64 (ti (BitVec.setWidth 64 (len8 (BitVec.setWidth 8 ((x0 >>> (32#64).toNat) >>> (16#64).toNat)))))) rfl rfl (by intro x hx; go_simp; (first | done | exact wide8I (len8 (BitVec.setWidth 8 ((x0 >>> (32#64).toNat) >>> (16#64).toNat))) | exact congrArg _ (wide8I (len8 (BitVec.setWidth 8 ((x0 >>> (32#64).toNat) >>> (16#64).toNat)))) | (rw [wide8I (len8 (BitVec.setWidth 8 ((x0 >>> (32#64).toNat) >>> (16#64).toNat)))]; done) | (rw [wide8I (len8 (BitVec.setWidth 8 ((x0 >>> (32#64).toNat) >>> (16#64).toNat)))]; rfl))) ?_
    simp only [sA, sB]
    refine lv 5 (.int .i64 (ti (48#64 + (BitVec.setWidth 64 (len8 (BitVec.setWidth 8 ((x0 >>> (32#64).toNat) >>> (16#64).toNat))))))) rfl rfl (by intro x hx; exact (show _ = Result.ok (Next.value (.int .i64 (IntKind.i64.wrap ((48 : Int) + (ti (BitVec.setWidth 64 (len8 (BitVec.setWidth 8 ((x0 >>> (32#64).toNat) >>> (16#64).toNat))))))))) x by kernel_rfl).trans (by rw [show (48 : Int) = ti 48#64 from by decide, addIT 48#64 (BitVec.setWidth 64 (len8 (BitVec.setWidth 8 ((x0 >>> (32#64).toNat) >>> (16#64).toNat))))])) ?_
    simp only [sA, sB]
    refine la 6 24 rfl rfl rfl rfl ?_
    simp only [sA, sB]
    clear HS
    refine ld fun W8 HS => ?_
    go_wp2
    have HF : bits_Len64 x0 = 48#64 + (BitVec.setWidth 64 (len8 (BitVec.setWidth 8 ((x0 >>> (32#64).toNat) >>> (16#64).toNat)))) := by
      unfold bits_Len64
      rw [cond_t h1.out, cond_t h2.out, cond_f h3.out]
    exact bodyPost_ret (v := .int .i64 (ti (48#64 + (BitVec.setWidth 64 (len8 (BitVec.setWidth 8 ((x0 >>> (32#64).toNat) >>> (16#64).toNat))))))) (by simp [results, Tryz.results123, go_sem]) rfl ⟨(by first | (rw [HF]; done) | (rw [HF]; rfl)), HS.out.below⟩
   ·replace h3 := hid h3
    go_upto_region 8 with fail
    refine lnb HS.out rfl ?_
    refine lm 0 0 rfl rfl rfl rfl ?_
    simp only [sA, sB]
    refine lv 1 (.int .u64 (tn (((x0 >>> (32#64).toNat) >>> (16#64).toNat) >>> (8#64).toNat))) rfl rfl (by intro x hx; have hy := tn_lo 8#64; go_simp; (first | done | exact shrUU ((x0 >>> (32#64).toNat) >>> (16#64).toNat) 8#64 hy | exact congrArg _ (shrUU ((x0 >>> (32#64).toNat) >>> (16#64).toNat) 8#64 hy) | (rw [shrUU ((x0 >>> (32#64).toNat) >>> (16#64).toNat) 8#64 hy]; done) | (rw [shrUU ((x0 >>> (32#64).toNat) >>> (16#64).toNat) 8#64 hy]; rfl))) ?_
    simp only [sA, sB]
    refine la 2 16 rfl rfl rfl rfl ?_
    simp only [sB]
    clear HS
    refine ld fun W8 HS => ?_
    go_upto_region 9 with fail
    refine lnb HS.out rfl ?_
    refine lm 0 2 rfl rfl rfl rfl ?_
    simp only [sA, sB]
    refine lv 1 (.int .i64 56) rfl rfl (by intro x hx; go_simp; all_goals exact rfl) ?_
    simp only [sA, sB]
    refine la 2 18 rfl rfl rfl rfl ?_
    simp only [sA, sB]
    clear HS
    refine ld fun W9 HS => ?_
    go_upto_region 10 with fail
    refine lnb HS.out rfl ?_
    refine lm 0 2 rfl rfl rfl rfl ?_
    simp only [sA, sB]
    refine lm 1 0 rfl rfl rfl rfl ?_
    simp only [sA, sB]
    refine lv 2 (.int .u8 (tn (BitVec.setWidth 8 (((x0 >>> (32#64).toNat) >>> (16#64).toNat) >>> (8#64).toNat)))) rfl rfl (by intro x hx; go_simp; (first | done | exact cut8U64 (((x0 >>> (32#64).toNat) >>> (16#64).toNat) >>> (8#64).toNat) | exact congrArg _ (cut8U64 (((x0 >>> (32#64).toNat) >>> (16#64).toNat) >>> (8#64).toNat)) | (rw [cut8U64 (((x0 >>> (32#64).toNat) >>> (16#64).toNat) >>> (8#64).toNat)]; done) | (rw [cut8U64 (((x0 >>> (32#64).toNat) >>> (16#64).toNat) >>> (8#64).toNat)]; rfl))) ?_
    simp only [sA, sB]
    refine lv 3 (.int .u8 (tn (len8 (BitVec.setWidth 8 (((x0 >>> (32#64).toNat) >>> (16#64).toNat) >>> (8#64).toNat))))) rfl rfl (by intro x hx; go_simp; (first | done | (rw [dif_pos ⟨tn_lo _, lt8 _⟩]; exact congrArg (fun v => Result.ok (Next.value (Value.int .u8 v)) x) (len8_tab _ _)))) ?_
    simp only [sA, sB]
    refine lv 4 (.int .i64 (ti (BitVec.setWidth 64 (len8 (BitVec.setWidth 8 (((x0 >>> (32#64).toNat) >>> (16#64).toNat) >>> (8#64).toNat)))))) rfl rfl (by intro x hx; go_simp; (first | done | exact wide8I (len8 (BitVec.setWidth 8 (((x0 >>> (32#64).toNat) >>> (16#64).toNat) >>> (8#64).toNat))) | exact congrArg _ (wide8I (len8 (BitVec.setWidth 8 (((x0 >>> (32#64).toNat) >>> (16#64).toNat) >>> (8#64).toNat)))) | (rw [wide8I (len8 (BitVec.setWidth 8 (((x0 >>> (32#64).toNat) >>> (16#64).toNat) >>> (8#64).toNat)))]; done) | (rw [wide8I (len8 (BitVec.setWidth 8 (((x0 >>> (32#64).toNat) >>> (16#64).toNat) >>> (8#64).toNat)))]; rfl))) ?_
    simp only [sA, sB]
    refine lv 5 (.int .i64 (ti (56#64 + (BitVec.setWidth 64 (len8 (BitVec.setWidth 8 (((x0 >>> (32#64).toNat) >>> (16#64).toNat) >>> (8#64).toNat))))))) rfl rfl (by intro x hx; exact (show _ = Result.ok (Next.value (.int .i64 (IntKind.i64.wrap ((56 : Int) + (ti (BitVec.setWidth 64 (len8 (BitVec.setWidth 8 (((x0 >>> (32#64).toNat) >>> (16#64).toNat) >>> (8#64).toNat))))))))) x by kernel_rfl).trans (by rw [show (56 : Int) = ti 56#64 from by decide, addIT 56#64 (BitVec.setWidth 64 (len8 (BitVec.setWidth 8 (((x0 >>> (32#64).toNat) >>> (16#64).toNat) >>> (8#64).toNat))))])) ?_
    simp only [sA, sB]
    refine la 6 24 rfl rfl rfl rfl ?_
    simp only [sA, sB]
    clear HS
    refine ld fun W10 HS => ?_
    go_wp2
    have HF : bits_Len64 x0 = 56#64 + (BitVec.setWidth 64 (len8 (BitVec.setWidth 8 (((x0 >>> (32#64).toNat) >>> (16#64).toNat) >>> (8#64).toNat)))) := by
      unfold bits_Len64
      rw [cond_t h1.out, cond_t h2.out, cond_t h3.out]
    exact bodyPost_ret (v := .int .i64 (ti (56#64 + (BitVec.setWidth 64 (len8 (BitVec.setWidth 8 (((x0 >>> (32#64).toNat) >>> (16#64).toNat) >>> (8#64).toNat))))))) (by simp [results, Tryz.results123, go_sem]) rfl ⟨(by first | (rw [HF]; done) | (rw [HF]; rfl)), HS.out.below⟩
end Go.Proofs.YtmcapfbkedfdkaaGreatDoor.Sp
