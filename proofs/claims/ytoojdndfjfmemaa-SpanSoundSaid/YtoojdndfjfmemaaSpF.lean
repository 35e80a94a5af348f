/-
  The contracts of the laws' own calls.
-/
import Derived.Deep.DeepCutAuto
import Derived.Test.YtoojdndfjfmemaaSpE
import Derived.Test.YtoojdndfjfmemaaTnW
namespace Go.Proofs.Ytoojdndfjfmemaa.Sp
open Go.RowKit Go.Proofs.Ytoojdndfjfmemaa.Num Go.Proofs.Ytoojdndfjfmemaa.Up
theorem rsh_is (a : P) (n : BitVec 64) : P.mk (a.lo / (1#64 <<< (n % 64#64).toNat)) (a.hi / (1#64 <<< (n % 64#64).toNat)) = P.mk (a.lo >>> (n % 64#64).toNat) (a.hi >>> (n % 64#64).toNat) := by
  have e : ∀ x : BitVec 64, x / (1#64 <<< (n % 64#64).toNat) = x >>> (n % 64#64).toNat := fun x => (shr_div x _ (mod64_lt n)).symm
  exact mk_eq (e _) (e _)
theorem lsh_is (a : P) (n : BitVec 64) : ref_Lsh a n = span_Mul a (P.mk (1#64 <<< (n % 64#64).toNat) (1#64 <<< (n % 64#64).toNat)) := mul_is a (P.mk (1#64 <<< (n % 64#64).toNat) (1#64 <<< (n % 64#64).toNat))
def fromP (x0 : BitVec 64) (x1 : BitVec 64) : P :=
  P.mk (minU x0 x1) (maxU x0 x1)
set_option maxRecDepth 100000 in
set_option maxHeartbeats 1000000 in
theorem fromP_any (x0 : BitVec 64) (x1 : BitVec 64)  (w : World) :
    Calls Try.prog 79 #[.int .u64 (tn (x0)), .int .u64 (tn (x1))] w fun e w' => e = .returned (.agg #[.int .u64 (tn ((fromP x0 x1).lo)), .int .u64 (tn ((fromP x0 x1).hi))]) ∧ Below w.heap.size w w' := by
  go_enter Try.func79, Try.ntmps79
  have HS := hid ((st_nil w).alloc (k := w.heap.size) rfl [.int .u64 0, .int .u64 0] 24)
  -- region 1
  go_upto_region 1 with fail
  refine lin_begin (St w [⟨w.heap.size, [some (.int .u64 0), some (.int .u64 0)], 24⟩]) rfl HS.out ?_
  refine lin_val (i := 0) (v := .int .u64 (tn (x0))) rfl rfl (by rfl) (by intro x hx; go_simp; (first | done | exact rfl)) ?_
  simp only [List.set_cons_succ, List.set_cons_zero]
  refine lin_val (i := 1) (v := .int .u64 (tn (x1))) rfl rfl (by rfl) (by intro x hx; go_simp; (first | done | exact rfl)) ?_
  simp only [List.set_cons_succ, List.set_cons_zero]
  refine lin_val (i := 2) (v := .int .u64 (tn (minU x0 x1))) rfl rfl (by rfl) (by intro x hx; go_simp; (first | done | exact minUT x0 x1)) ?_
  simp only [List.set_cons_succ, List.set_cons_zero]
  refine lin_val (i := 3) (v := .int .u64 (tn (x0))) rfl rfl (by rfl) (by intro x hx; go_simp; (first | done | exact rfl)) ?_
  simp only [List.set_cons_succ, List.set_cons_zero]
  refine lin_val (i := 4) (v := .int .u64 (tn (x1))) rfl rfl (by rfl) (by intro x hx; go_simp; (first | done | exact rfl)) ?_
  simp only [List.set_cons_succ, List.set_cons_zero]
  refine lin_val (i := 5) (v := .int .u64 (tn (maxU x0 x1))) rfl rfl (by rfl) (by intro x hx; go_simp; (first | done | exact maxUT x0 x1)) ?_
  simp only [List.set_cons_succ, List.set_cons_zero]
  refine lin_val (i := 6) (v := .agg #[.int .u64 (tn (minU x0 x1)), .int .u64 (tn (maxU x0 x1))]) rfl rfl (by rfl) (by intro x hx; go_simp; (first | done | exact rfl)) ?_
  simp only [List.set_cons_succ, List.set_cons_zero]
  refine lin_store (i := 7) (St w [⟨w.heap.size, [some (.int .u64 (tn (minU x0 x1))), some (.int .u64 (tn (maxU x0 x1)))], 24⟩]) rfl rfl (by rfl) (fun x => ((x.setCell ⟨w.heap.size, 0, none⟩ (.int .u64 (tn (minU x0 x1)))).setCell ⟨w.heap.size, 1, none⟩ (.int .u64 (tn (maxU x0 x1))))) (by intro x hx; obtain ⟨u0, z0⟩ := hx.has 0 0 rfl (by simp); have q0 := hx.soft 0 0 rfl; obtain ⟨u1, z1⟩ := hx.has 0 1 rfl (by simp); have q1 := hx.soft 0 1 rfl; go_simp; (first | done | rfl)) (fun x hx => ((hx.put 0 0 (.int .u64 (tn (minU x0 x1))) rfl).put 0 1 (.int .u64 (tn (maxU x0 x1))) rfl)) ?_
  refine lin_done ?_
  intro W1 hx
  replace HS := hid hx
  clear hx
  go_wp2
  have r0 := HS.out.load 0 0 rfl rfl
  have r1 := HS.out.load 0 1 rfl rfl
  have HF : fromP x0 x1 = P.mk (minU x0 x1) (maxU x0 x1) := by
    unfold fromP
    rfl
  exact bodyPost_ret (v := .agg #[.int .u64 (tn (minU x0 x1)), .int .u64 (tn (maxU x0 x1))]) (by simp [results, Try.results79, go_sem, r0, r1]) rfl ⟨(by first | (rw [HF]; done) | (rw [HF]; rfl)), HS.out.below⟩
def insideV (x0 : P) (x1 : BitVec 64) : BitVec 64 :=
  bif (((x0.hi - x0.lo) + 1#64) == 0#64) then (x1) else (x0.lo + (x1 % ((x0.hi - x0.lo) + 1#64)))
set_option maxRecDepth 100000 in
set_option maxHeartbeats 1000000 in
theorem insideV_any (x0 : P) (x1 : BitVec 64)  (w : World) :
    Calls Try.prog 80 #[.agg #[.int .u64 (tn (x0.lo)), .int .u64 (tn (x0.hi))], .int .u64 (tn (x1))] w fun e w' => e = .returned (.int .u64 (tn (insideV x0 x1))) ∧ Below w.heap.size w w' := by
  go_enter Try.func80, Try.ntmps80
  have HS := hid ((st_nil w).alloc (k := w.heap.size) rfl [.int .u64 (tn (x0.lo)), .int .u64 (tn (x0.hi))] 24)
  -- region 1
  go_upto_region 1 with fail
  refine lin_begin (St w [⟨w.heap.size, [some (.int .u64 (tn (x0.lo))), some (.int .u64 (tn (x0.hi)))], 24⟩]) rfl HS.out ?_
  refine lin_val (i := 0) (v := .pointer (some ⟨w.heap.size, 1, none⟩)) rfl rfl (by rfl) (by intro x hx; go_simp; (first | done | exact rfl)) ?_
  simp only [List.set_cons_succ, List.set_cons_zero]
  refine lin_val (i := 1) (v := .int .u64 (tn (x0.hi))) rfl rfl (by rfl) (by intro x hx; have f0 := hx.load 0 1 rfl rfl; go_simp; (first | done | exact rfl)) ?_
  simp only [List.set_cons_succ, List.set_cons_zero]
  refine lin_val (i := 2) (v := .pointer (some ⟨w.heap.size, 0, none⟩)) rfl rfl (by rfl) (by intro x hx; go_simp; (first | done | exact rfl)) ?_
  simp only [List.set_cons_succ, List.set_cons_zero]
  refine lin_val (i := 3) (v := .int .u64 (tn (x0.lo))) rfl rfl (by rfl) (by intro x hx; have f0 := hx.load 0 0 rfl rfl; go_simp; (first | done | exact rfl)) ?_
  simp only [List.set_cons_succ, List.set_cons_zero]
  refine lin_val (i := 4) (v := .int .u64 (tn (x0.hi - x0.lo))) rfl rfl (by rfl) (by intro x hx; go_simp; (first | done | exact subUT x0.hi x0.lo | exact congrArg _ (subUT x0.hi x0.lo) | (rw [subUT x0.hi x0.lo]; done) | (rw [subUT x0.hi x0.lo]; rfl))) ?_
  simp only [List.set_cons_succ, List.set_cons_zero]
  refine lin_val (i := 5) (v := .int .u64 (tn ((x0.hi - x0.lo) + 1#64))) rfl rfl (by rfl) (by intro x hx; go_simp; (first | done | exact addUT (x0.hi - x0.lo) 1#64 | exact congrArg _ (addUT (x0.hi - x0.lo) 1#64) | (rw [addUT (x0.hi - x0.lo) 1#64]; done) | (rw [addUT (x0.hi - x0.lo) 1#64]; rfl))) ?_
  simp only [List.set_cons_succ, List.set_cons_zero]
  refine lin_val (i := 6) (v := .int .u64 (tn ((x0.hi - x0.lo) + 1#64))) rfl rfl (by rfl) (by intro x hx; go_simp; (first | done | exact rfl)) ?_
  simp only [List.set_cons_succ, List.set_cons_zero]
  refine lin_done ?_
  intro W1 hx
  replace HS := hid hx
  clear hx
  -- region 2
  go_upto_region 2 with fail
  refine lin_begin (St w [⟨w.heap.size, [some (.int .u64 (tn (x0.lo))), some (.int .u64 (tn (x0.hi)))], 24⟩]) rfl HS.out ?_
  refine lin_val (i := 0) (v := .int .u64 (tn ((x0.hi - x0.lo) + 1#64))) rfl rfl (by rfl) (by intro x hx; go_simp; (first | done | exact rfl)) ?_
  simp only [List.set_cons_succ, List.set_cons_zero]
  refine lin_val (i := 1) (v := .bool ((((x0.hi - x0.lo) + 1#64) == 0#64))) rfl rfl (by rfl) (by intro x hx; go_simp; (first | done | exact eqUT ((x0.hi - x0.lo) + 1#64) 0#64 | exact congrArg _ (eqUT ((x0.hi - x0.lo) + 1#64) 0#64) | (rw [eqUT ((x0.hi - x0.lo) + 1#64) 0#64]; done) | (rw [eqUT ((x0.hi - x0.lo) + 1#64) 0#64]; rfl))) ?_
  simp only [List.set_cons_succ, List.set_cons_zero]
  refine lin_done ?_
  intro W2 hx
  replace HS := hid hx
  clear hx
  cases h1 : ((((x0.hi - x0.lo) + 1#64) == 0#64))
  · replace h1 := hid h1
    -- region 4
    go_upto_region 4 with fail
    refine up_begin (St w [⟨w.heap.size, [some (.int .u64 (tn (x0.lo))), some (.int .u64 (tn (x0.hi)))], 24⟩]) 7 rfl (by kernel_rfl) (HS.out.drew) ?_
    refine take_val (i := 0) (v := .pointer (some ⟨w.heap.size, 0, none⟩)) (st_ups _ _) rfl rfl (by kernel_rfl) (fun _ _ _ h => h) (by rfl) (by intro x hx; go_simp; (first | done | exact rfl)) ?_
    simp only [List.set_cons_succ, List.set_cons_zero]
    refine take_val (i := 1) (v := .int .u64 (tn (x0.lo))) (st_ups _ _) rfl rfl (by kernel_rfl) (fun _ _ _ h => h) (by rfl) (by intro x hx; have f0 := hx.load 0 0 rfl rfl; go_simp; (first | done | exact rfl)) ?_
    simp only [List.set_cons_succ, List.set_cons_zero]
    refine take_val (i := 2) (v := .int .u64 (tn (x1))) (st_ups _ _) rfl rfl (by kernel_rfl) (fun _ _ _ h => h) (by rfl) (by intro x hx; go_simp; (first | done | exact rfl)) ?_
    simp only [List.set_cons_succ, List.set_cons_zero]
    refine take_val (i := 3) (v := .int .u64 (tn ((x0.hi - x0.lo) + 1#64))) (st_ups _ _) rfl rfl (by kernel_rfl) (fun _ _ _ h => h) (by rfl) (by intro x hx; go_simp; (first | done | exact rfl)) ?_
    simp only [List.set_cons_succ, List.set_cons_zero]
    refine take_val (i := 4) (v := .int .u64 (tn (x1 % ((x0.hi - x0.lo) + 1#64)))) (st_ups _ _) rfl rfl (by kernel_rfl) (fun _ _ _ h => h) (by rfl) (by intro x hx; have hy := ne0U h1.out; go_simp; (first | done | exact (if_neg hy).trans (congrArg (fun v => Result.ok (Next.value (Value.int .u64 v)) x) (remUT x1 ((x0.hi - x0.lo) + 1#64))) | exact remUT x1 ((x0.hi - x0.lo) + 1#64) | exact congrArg _ (remUT x1 ((x0.hi - x0.lo) + 1#64)) | (rw [remUT x1 ((x0.hi - x0.lo) + 1#64)]; done) | (rw [remUT x1 ((x0.hi - x0.lo) + 1#64)]; rfl))) ?_
    simp only [List.set_cons_succ, List.set_cons_zero]
    refine take_val (i := 5) (v := .int .u64 (tn (x0.lo + (x1 % ((x0.hi - x0.lo) + 1#64))))) (st_ups _ _) rfl rfl (by kernel_rfl) (fun _ _ _ h => h) (by rfl) (by intro x hx; go_simp; (first | done | exact addUT x0.lo (x1 % ((x0.hi - x0.lo) + 1#64)) | exact congrArg _ (addUT x0.lo (x1 % ((x0.hi - x0.lo) + 1#64))) | (rw [addUT x0.lo (x1 % ((x0.hi - x0.lo) + 1#64))]; done) | (rw [addUT x0.lo (x1 % ((x0.hi - x0.lo) + 1#64))]; rfl))) ?_
    simp only [List.set_cons_succ, List.set_cons_zero]
    refine take_val (i := 6) (v := .int .u64 (tn (x0.lo + (x1 % ((x0.hi - x0.lo) + 1#64))))) (st_ups _ _) rfl rfl (by kernel_rfl) (fun _ _ _ h => h) (by rfl) (by intro x hx; go_simp; (first | done | exact rfl)) ?_
    simp only [List.set_cons_succ, List.set_cons_zero]
    refine take_done (by kernel_rfl) ?_ _
    intro W3 hx
    replace HS := hid hx
    clear hx
    go_wp2
    have HF : insideV x0 x1 = x0.lo + (x1 % ((x0.hi - x0.lo) + 1#64)) := by
      unfold insideV
      rw [cond_f h1.out]
    exact bodyPost_ret (v := .int .u64 (tn (x0.lo + (x1 % ((x0.hi - x0.lo) + 1#64))))) (by simp [results, Try.results80, go_sem]) rfl ⟨(by first | (rw [HF]; done) | (rw [HF]; rfl)), HS.out.below⟩
  · replace h1 := hid h1
    -- region 3
    go_upto_region 3 with fail
    refine lin_begin (St w [⟨w.heap.size, [some (.int .u64 (tn (x0.lo))), some (.int .u64 (tn (x0.hi)))], 24⟩]) rfl HS.out ?_
    refine lin_val (i := 0) (v := .int .u64 (tn (x1))) rfl rfl (by rfl) (by intro x hx; go_simp; (first | done | exact rfl)) ?_
    simp only [List.set_cons_succ, List.set_cons_zero]
    refine lin_val (i := 1) (v := .int .u64 (tn (x1))) rfl rfl (by rfl) (by intro x hx; go_simp; (first | done | exact rfl)) ?_
    simp only [List.set_cons_succ, List.set_cons_zero]
    refine lin_done ?_
    intro W3 hx
    replace HS := hid hx
    clear hx
    go_wp2
    have HF : insideV x0 x1 = x1 := by
      unfold insideV
      rw [cond_t h1.out]
    exact bodyPost_ret (v := .int .u64 (tn (x1))) (by simp [results, Try.results80, go_sem]) rfl ⟨(by first | (rw [HF]; done) | (rw [HF]; rfl)), HS.out.below⟩
set_option maxRecDepth 100000 in
set_option maxHeartbeats 1000000 in
theorem law_known_any   (w : World) :
    Calls Try.prog 12 #[] w fun e w' => e = .returned (.bool true) ∧ Below w.heap.size w w' := by
  go_enter Try.func12, Try.ntmps12
  have HS := hid (st_nil w)
  -- region 1
  go_upto_region 1 with fail
  refine lin_begin (St w []) rfl HS.out ?_
  refine lin_call (i := 0) (f := 79) (args := #[.int .u64 (tn (250#64)), .int .u64 (tn (255#64))]) (v := .agg #[.int .u64 (tn ((fromP 250#64 255#64).lo)), .int .u64 (tn ((fromP 250#64 255#64).hi))]) (st_ups _ _) rfl rfl (by rfl) (fun x hx => by kernel_rfl) (by intro x hx; exact fromP_any 250#64 255#64 _) ?_
  simp only [List.set_cons_succ, List.set_cons_zero]
  refine lin_call (i := 1) (f := 79) (args := #[.int .u64 (tn (1#64)), .int .u64 (tn (2#64))]) (v := .agg #[.int .u64 (tn ((fromP 1#64 2#64).lo)), .int .u64 (tn ((fromP 1#64 2#64).hi))]) (st_ups _ _) rfl rfl (by rfl) (fun x hx => by kernel_rfl) (by intro x hx; exact fromP_any 1#64 2#64 _) ?_
  simp only [List.set_cons_succ, List.set_cons_zero]
  refine lin_call (i := 2) (f := 25) (args := #[.agg #[.int .u64 (tn ((fromP 250#64 255#64).lo)), .int .u64 (tn ((fromP 250#64 255#64).hi))], .agg #[.int .u64 (tn ((fromP 1#64 2#64).lo)), .int .u64 (tn ((fromP 1#64 2#64).hi))]]) (v := .agg #[.int .u64 (tn ((span_Add (fromP 250#64 255#64) (fromP 1#64 2#64)).lo)), .int .u64 (tn ((span_Add (fromP 250#64 255#64) (fromP 1#64 2#64)).hi))]) (st_ups _ _) rfl rfl (by rfl) (fun x hx => by kernel_rfl) (by intro x hx; exact span_Add_any (fromP 250#64 255#64) (fromP 1#64 2#64) _) ?_
  simp only [List.set_cons_succ, List.set_cons_zero]
  refine lin_call (i := 3) (f := 79) (args := #[.int .u64 (tn (251#64)), .int .u64 (tn (257#64))]) (v := .agg #[.int .u64 (tn ((fromP 251#64 257#64).lo)), .int .u64 (tn ((fromP 251#64 257#64).hi))]) (st_ups _ _) rfl rfl (by rfl) (fun x hx => by kernel_rfl) (by intro x hx; exact fromP_any 251#64 257#64 _) ?_
  simp only [List.set_cons_succ, List.set_cons_zero]
  refine lin_val (i := 4) (v := .bool true) rfl rfl (by rfl) (by intro x hx; go_simp; (first | done | exact (eqPT (fun b => Result.ok (Next.value (Value.bool b)) x) ((span_Add (fromP 250#64 255#64) (fromP 1#64 2#64)).lo) ((span_Add (fromP 250#64 255#64) (fromP 1#64 2#64)).hi) ((fromP 251#64 257#64).lo) ((fromP 251#64 257#64).hi)).trans (congrArg (fun b => Result.ok (Next.value (Value.bool b)) x) ((show (eqP (span_Add (fromP 250#64 255#64) (fromP 1#64 2#64)) (fromP 251#64 257#64)) = true by decide +kernel))))) ?_
  simp only [List.set_cons_succ, List.set_cons_zero]
  refine lin_val (i := 5) (v := .bool true) rfl rfl (by rfl) (by intro x hx; go_simp; (first | done | exact rfl)) ?_
  simp only [List.set_cons_succ, List.set_cons_zero]
  refine lin_call (i := 6) (f := 79) (args := #[.int .u64 (tn (18446744073709551614#64)), .int .u64 (tn (18446744073709551615#64))]) (v := .agg #[.int .u64 (tn ((fromP 18446744073709551614#64 18446744073709551615#64).lo)), .int .u64 (tn ((fromP 18446744073709551614#64 18446744073709551615#64).hi))]) (st_ups _ _) rfl rfl (by rfl) (fun x hx => by kernel_rfl) (by intro x hx; exact fromP_any 18446744073709551614#64 18446744073709551615#64 _) ?_
  simp only [List.set_cons_succ, List.set_cons_zero]
  refine lin_call (i := 7) (f := 79) (args := #[.int .u64 (tn (1#64)), .int .u64 (tn (2#64))]) (v := .agg #[.int .u64 (tn ((fromP 1#64 2#64).lo)), .int .u64 (tn ((fromP 1#64 2#64).hi))]) (st_ups _ _) rfl rfl (by rfl) (fun x hx => by kernel_rfl) (by intro x hx; exact fromP_any 1#64 2#64 _) ?_
  simp only [List.set_cons_succ, List.set_cons_zero]
  refine lin_call (i := 8) (f := 25) (args := #[.agg #[.int .u64 (tn ((fromP 18446744073709551614#64 18446744073709551615#64).lo)), .int .u64 (tn ((fromP 18446744073709551614#64 18446744073709551615#64).hi))], .agg #[.int .u64 (tn ((fromP 1#64 2#64).lo)), .int .u64 (tn ((fromP 1#64 2#64).hi))]]) (v := .agg #[.int .u64 (tn ((span_Add (fromP 18446744073709551614#64 18446744073709551615#64) (fromP 1#64 2#64)).lo)), .int .u64 (tn ((span_Add (fromP 18446744073709551614#64 18446744073709551615#64) (fromP 1#64 2#64)).hi))]) (st_ups _ _) rfl rfl (by rfl) (fun x hx => by kernel_rfl) (by intro x hx; exact span_Add_any (fromP 18446744073709551614#64 18446744073709551615#64) (fromP 1#64 2#64) _) ?_
  simp only [List.set_cons_succ, List.set_cons_zero]
  refine lin_call (i := 9) (f := 17) (args := #[]) (v := .agg #[.int .u64 (tn (0#64)), .int .u64 (tn (18446744073709551615#64))]) (st_ups _ _) rfl rfl (by rfl) (fun x hx => by kernel_rfl) (by intro x hx; exact span_All_any _) ?_
  simp only [List.set_cons_succ, List.set_cons_zero]
  refine lin_val (i := 10) (v := .bool true) rfl rfl (by rfl) (by intro x hx; go_simp; (first | done | exact (eqPT (fun b => Result.ok (Next.value (Value.bool b)) x) ((span_Add (fromP 18446744073709551614#64 18446744073709551615#64) (fromP 1#64 2#64)).lo) ((span_Add (fromP 18446744073709551614#64 18446744073709551615#64) (fromP 1#64 2#64)).hi) 0#64 18446744073709551615#64).trans (congrArg (fun b => Result.ok (Next.value (Value.bool b)) x) ((show (eqP (span_Add (fromP 18446744073709551614#64 18446744073709551615#64) (fromP 1#64 2#64)) (P.mk 0#64 18446744073709551615#64)) = true by decide +kernel))))) ?_
  simp only [List.set_cons_succ, List.set_cons_zero]
  refine lin_val (i := 11) (v := .bool true) rfl rfl (by rfl) (by intro x hx; go_simp; (first | done | exact rfl)) ?_
  simp only [List.set_cons_succ, List.set_cons_zero]
  refine lin_val (i := 12) (v := .bool true) rfl rfl (by rfl) (by intro x hx; go_simp; (first | done | exact rfl)) ?_
  simp only [List.set_cons_succ, List.set_cons_zero]
  refine lin_call (i := 13) (f := 79) (args := #[.int .u64 (tn (4#64)), .int .u64 (tn (6#64))]) (v := .agg #[.int .u64 (tn ((fromP 4#64 6#64).lo)), .int .u64 (tn ((fromP 4#64 6#64).hi))]) (st_ups _ _) rfl rfl (by rfl) (fun x hx => by kernel_rfl) (by intro x hx; exact fromP_any 4#64 6#64 _) ?_
  simp only [List.set_cons_succ, List.set_cons_zero]
  refine lin_call (i := 14) (f := 70) (args := #[.agg #[.int .u64 (tn ((fromP 4#64 6#64).lo)), .int .u64 (tn ((fromP 4#64 6#64).hi))]]) (v := .agg #[.int .u64 (tn ((fromP 4#64 6#64).lo &&& ~~~(onesV ((fromP 4#64 6#64).lo ^^^ (fromP 4#64 6#64).hi)))), .int .u64 (tn (onesV ((fromP 4#64 6#64).lo ^^^ (fromP 4#64 6#64).hi)))]) (st_ups _ _) rfl rfl (by rfl) (fun x hx => by kernel_rfl) (by intro x hx; exact span_Bits_any (fromP 4#64 6#64) _) ?_
  simp only [List.set_cons_succ, List.set_cons_zero]
  refine lin_val (i := 15) (v := .agg #[.int .u64 4, .int .u64 3]) rfl rfl (by rfl) (by intro x hx; go_simp; (first | done | exact rfl)) ?_
  simp only [List.set_cons_succ, List.set_cons_zero]
  refine lin_val (i := 16) (v := .bool true) rfl rfl (by rfl) (by intro x hx; go_simp; (first | done | exact (eqPT (fun b => Result.ok (Next.value (Value.bool b)) x) ((fromP 4#64 6#64).lo &&& ~~~(onesV ((fromP 4#64 6#64).lo ^^^ (fromP 4#64 6#64).hi))) (onesV ((fromP 4#64 6#64).lo ^^^ (fromP 4#64 6#64).hi)) 4#64 3#64).trans (congrArg (fun b => Result.ok (Next.value (Value.bool b)) x) ((show (eqP (P.mk ((fromP 4#64 6#64).lo &&& ~~~(onesV ((fromP 4#64 6#64).lo ^^^ (fromP 4#64 6#64).hi))) (onesV ((fromP 4#64 6#64).lo ^^^ (fromP 4#64 6#64).hi))) (P.mk 4#64 3#64)) = true by decide +kernel))))) ?_
  simp only [List.set_cons_succ, List.set_cons_zero]
  refine lin_val (i := 17) (v := .bool true) rfl rfl (by rfl) (by intro x hx; go_simp; (first | done | exact rfl)) ?_
  simp only [List.set_cons_succ, List.set_cons_zero]
  refine lin_val (i := 18) (v := .bool true) rfl rfl (by rfl) (by intro x hx; go_simp; (first | done | exact rfl)) ?_
  simp only [List.set_cons_succ, List.set_cons_zero]
  refine lin_call (i := 19) (f := 50) (args := #[.int .i64 (ti (18446744073709551615#64))]) (v := .agg #[.int .i64 (ti (18446744073709551615#64)), .int .i64 (ti (18446744073709551615#64))]) (st_ups _ _) rfl rfl (by rfl) (fun x hx => by kernel_rfl) (by intro x hx; exact span_Sof_any 18446744073709551615#64 _) ?_
  simp only [List.set_cons_succ, List.set_cons_zero]
  refine lin_call (i := 20) (f := 50) (args := #[.int .i64 (ti (1#64))]) (v := .agg #[.int .i64 (ti (1#64)), .int .i64 (ti (1#64))]) (st_ups _ _) rfl rfl (by rfl) (fun x hx => by kernel_rfl) (by intro x hx; exact span_Sof_any 1#64 _) ?_
  simp only [List.set_cons_succ, List.set_cons_zero]
  refine lin_call (i := 21) (f := 60) (args := #[.agg #[.int .i64 (ti (18446744073709551615#64)), .int .i64 (ti (18446744073709551615#64))], .agg #[.int .i64 (ti (1#64)), .int .i64 (ti (1#64))]]) (v := .agg #[.int .i64 (ti ((span_Sadd (P.mk 18446744073709551615#64 18446744073709551615#64) (P.mk 1#64 1#64)).lo)), .int .i64 (ti ((span_Sadd (P.mk 18446744073709551615#64 18446744073709551615#64) (P.mk 1#64 1#64)).hi))]) (st_ups _ _) rfl rfl (by rfl) (fun x hx => by kernel_rfl) (by intro x hx; exact span_Sadd_any (P.mk 18446744073709551615#64 18446744073709551615#64) (P.mk 1#64 1#64) _) ?_
  simp only [List.set_cons_succ, List.set_cons_zero]
  refine lin_call (i := 22) (f := 50) (args := #[.int .i64 (ti (0#64))]) (v := .agg #[.int .i64 (ti (0#64)), .int .i64 (ti (0#64))]) (st_ups _ _) rfl rfl (by rfl) (fun x hx => by kernel_rfl) (by intro x hx; exact span_Sof_any 0#64 _) ?_
  simp only [List.set_cons_succ, List.set_cons_zero]
  refine lin_val (i := 23) (v := .bool true) rfl rfl (by rfl) (by intro x hx; go_simp; (first | done | exact (eqST (fun b => Result.ok (Next.value (Value.bool b)) x) ((span_Sadd (P.mk 18446744073709551615#64 18446744073709551615#64) (P.mk 1#64 1#64)).lo) ((span_Sadd (P.mk 18446744073709551615#64 18446744073709551615#64) (P.mk 1#64 1#64)).hi) 0#64 0#64).trans (congrArg (fun b => Result.ok (Next.value (Value.bool b)) x) ((show (eqS (span_Sadd (P.mk 18446744073709551615#64 18446744073709551615#64) (P.mk 1#64 1#64)) (P.mk 0#64 0#64)) = true by decide +kernel))))) ?_
  simp only [List.set_cons_succ, List.set_cons_zero]
  refine lin_val (i := 24) (v := .bool true) rfl rfl (by rfl) (by intro x hx; go_simp; (first | done | exact rfl)) ?_
  simp only [List.set_cons_succ, List.set_cons_zero]
  refine lin_val (i := 25) (v := .bool true) rfl rfl (by rfl) (by intro x hx; go_simp; (first | done | exact rfl)) ?_
  simp only [List.set_cons_zero]
  refine lin_done ?_
  intro W1 hx
  replace HS := hid hx
  clear hx
  go_wp2
  exact bodyPost_ret (v := .bool true) (by simp [results, Try.results12, go_sem]) rfl ⟨rfl, HS.out.below⟩
theorem alu_T (op : Int) (x y : BitVec 64) (w : World) :
    Calls Try.prog 114 #[.int .i64 op, .bool true, .int .u64 (tn x), .int .u64 (tn y)] w fun e w' => e = .returned (.tuple #[.int .u64 (tn (aluV 64 op x y)), .bool (aluIs op)]) ∧ Below w.heap.size w w' := by
  refine (Go.Proofs.Ytoojdndfjfmemaa.WordA.alu_wide op (tn x) (tn y) w (tn_lo x) (tn_hi64 x) (tn_lo y) (tn_hi64 y)).mono ?_
  rintro e w' ⟨rfl, rfl⟩
  refine ⟨?_, Below.refl _ _⟩
  unfold aluA
  rw [b64_tn, b64_tn]
  rfl
set_option maxRecDepth 100000 in
set_option maxHeartbeats 1000000 in
theorem law_made_any (x0 : BitVec 64) (x1 : BitVec 64) (x2 : BitVec 64)  (w : World) :
    Calls Try.prog 81 #[.int .i64 (ti (x0)), .int .u64 (tn (x1)), .int .u64 (tn (x2))] w fun e w' => e = .returned (.int .u64 (tn ((aluV 64 (ti x0) x1 x2)))) ∧ Below w.heap.size w w' := by
  go_enter Try.func81, Try.ntmps81
  have HS := hid (st_nil w)
  -- region 1
  go_upto_region 1 with fail
  refine lin_begin (St w []) rfl HS.out ?_
  refine lin_val (i := 0) (v := .int .i64 (ti (x0))) rfl rfl (by rfl) (by intro x hx; go_simp; (first | done | exact rfl)) ?_
  simp only [List.set_cons_succ, List.set_cons_zero]
  refine lin_val (i := 1) (v := .int .u64 (tn (x1))) rfl rfl (by rfl) (by intro x hx; go_simp; (first | done | exact rfl)) ?_
  simp only [List.set_cons_succ, List.set_cons_zero]
  refine lin_val (i := 2) (v := .int .u64 (tn (x2))) rfl rfl (by rfl) (by intro x hx; go_simp; (first | done | exact rfl)) ?_
  simp only [List.set_cons_succ, List.set_cons_zero]
  refine lin_call (i := 3) (f := 114) (args := #[.int .i64 (ti (x0)), .bool true, .int .u64 (tn (x1)), .int .u64 (tn (x2))]) (v := .tuple #[.int .u64 (tn (aluV 64 (ti x0) x1 x2)), .bool (aluIs (ti x0))]) (st_ups _ _) rfl rfl (by rfl) (fun x hx => by kernel_rfl) (by intro x hx; exact alu_T (ti x0) x1 x2 _) ?_
  simp only [List.set_cons_succ, List.set_cons_zero]
  refine lin_val (i := 4) (v := .tuple #[.int .u64 (tn (aluV 64 (ti x0) x1 x2)), .bool (aluIs (ti x0))]) rfl rfl (by rfl) (by intro x hx; go_simp; (first | done | exact rfl)) ?_
  simp only [List.set_cons_succ, List.set_cons_zero]
  refine lin_val (i := 5) (v := .int .u64 (tn (aluV 64 (ti x0) x1 x2))) rfl rfl (by rfl) (by intro x hx; go_simp; (first | done | exact rfl)) ?_
  simp only [List.set_cons_succ, List.set_cons_zero]
  refine lin_val (i := 6) (v := .bool (aluIs (ti x0))) rfl rfl (by rfl) (by intro x hx; go_simp; (first | done | exact rfl)) ?_
  simp only [List.set_cons_succ, List.set_cons_zero]
  refine lin_val (i := 7) (v := .int .u64 (tn (aluV 64 (ti x0) x1 x2))) rfl rfl (by rfl) (by intro x hx; go_simp; (first | done | exact rfl)) ?_
  simp only [List.set_cons_succ, List.set_cons_zero]
  refine lin_val (i := 8) (v := .bool (aluIs (ti x0))) rfl rfl (by rfl) (by intro x hx; go_simp; (first | done | exact rfl)) ?_
  simp only [List.set_cons_succ, List.set_cons_zero]
  refine lin_done ?_
  intro W1 hx
  replace HS := hid hx
  clear hx
  -- region 2
  go_upto_region 2 with fail
  refine lin_begin (St w []) rfl HS.out ?_
  refine lin_val (i := 0) (v := .int .u64 (tn (aluV 64 (ti x0) x1 x2))) rfl rfl (by rfl) (by intro x hx; go_simp; (first | done | exact rfl)) ?_
  simp only [List.set_cons_succ, List.set_cons_zero]
  refine lin_val (i := 1) (v := .int .u64 (tn (aluV 64 (ti x0) x1 x2))) rfl rfl (by rfl) (by intro x hx; go_simp; (first | done | exact rfl)) ?_
  simp only [List.set_cons_succ, List.set_cons_zero]
  refine lin_done ?_
  intro W2 hx
  replace HS := hid hx
  clear hx
  go_wp2
  exact bodyPost_ret (v := .int .u64 (tn (aluV 64 (ti x0) x1 x2))) (by simp [results, Try.results81, go_sem]) rfl ⟨rfl, HS.out.below⟩
end Go.Proofs.Ytoojdndfjfmemaa.Sp
