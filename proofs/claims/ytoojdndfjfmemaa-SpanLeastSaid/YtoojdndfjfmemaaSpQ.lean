/-
  The contracts of the document's calls: signed ones, turns.
-/
import Derived.Deep.DeepCutAuto
import Derived.Test.YtoojdndfjfmemaaSpR
namespace Go.Proofs.Ytoojdndfjfmemaa.Sp
open Go.RowKit Go.Proofs.Ytoojdndfjfmemaa.Num Go.Proofs.Ytoojdndfjfmemaa.Up
set_option maxRecDepth 100000 in
set_option maxHeartbeats 1000000 in
theorem ref_And_any (x0 : P) (x1 : P)  (w : World) :
    Calls Try.prog 36 #[.agg #[.int .u64 (tn (x0.lo)), .int .u64 (tn (x0.hi))], .agg #[.int .u64 (tn (x1.lo)), .int .u64 (tn (x1.hi))]] w fun e w' => e = .returned (.agg #[.int .u64 (tn (0#64)), .int .u64 (tn (minU x0.hi x1.hi))]) ∧ Below w.heap.size w w' := by
  go_enter Try.func36, Try.ntmps36
  have HS := hid ((((st_nil w).alloc (k := w.heap.size) rfl [.int .u64 (tn (x0.lo)), .int .u64 (tn (x0.hi))] 24).alloc (k := w.heap.size + 1) (by simp) [.int .u64 (tn (x1.lo)), .int .u64 (tn (x1.hi))] 24).alloc (k := w.heap.size + 2) (by simp) [.int .u64 0, .int .u64 0] 24)
  -- region 1
  go_upto_region 1 with fail
  refine lin_begin (St w [⟨w.heap.size, [some (.int .u64 (tn (x0.lo))), some (.int .u64 (tn (x0.hi)))], 24⟩, ⟨w.heap.size + 1, [some (.int .u64 (tn (x1.lo))), some (.int .u64 (tn (x1.hi)))], 24⟩, ⟨w.heap.size + 2, [some (.int .u64 0), some (.int .u64 0)], 24⟩]) rfl HS.out ?_
  refine lin_val (i := 0) (v := .pointer (some ⟨w.heap.size, 1, none⟩)) rfl rfl (by rfl) (by intro x hx; go_simp; (first | done | exact rfl)) ?_
  simp only [List.set_cons_succ, List.set_cons_zero]
  refine lin_val (i := 1) (v := .int .u64 (tn (x0.hi))) rfl rfl (by rfl) (by intro x hx; have f0 := hx.load 0 1 rfl rfl; go_simp; (first | done | exact rfl)) ?_
  simp only [List.set_cons_succ, List.set_cons_zero]
  refine lin_val (i := 2) (v := .pointer (some ⟨w.heap.size + 1, 1, none⟩)) rfl rfl (by rfl) (by intro x hx; go_simp; (first | done | exact rfl)) ?_
  simp only [List.set_cons_succ, List.set_cons_zero]
  refine lin_val (i := 3) (v := .int .u64 (tn (x1.hi))) rfl rfl (by rfl) (by intro x hx; have f0 := hx.load 1 1 rfl rfl; go_simp; (first | done | exact rfl)) ?_
  simp only [List.set_cons_succ, List.set_cons_zero]
  refine lin_val (i := 4) (v := .int .u64 (tn (minU x0.hi x1.hi))) rfl rfl (by rfl) (by intro x hx; go_simp; (first | done | exact minUT x0.hi x1.hi)) ?_
  simp only [List.set_cons_succ, List.set_cons_zero]
  refine lin_val (i := 5) (v := .agg #[.int .u64 0, .int .u64 (tn (minU x0.hi x1.hi))]) rfl rfl (by rfl) (by intro x hx; go_simp; (first | done | exact rfl)) ?_
  simp only [List.set_cons_succ, List.set_cons_zero]
  refine lin_store (i := 6) (St w [⟨w.heap.size, [some (.int .u64 (tn (x0.lo))), some (.int .u64 (tn (x0.hi)))], 24⟩, ⟨w.heap.size + 1, [some (.int .u64 (tn (x1.lo))), some (.int .u64 (tn (x1.hi)))], 24⟩, ⟨w.heap.size + 2, [some (.int .u64 0), some (.int .u64 (tn (minU x0.hi x1.hi)))], 24⟩]) rfl rfl (by rfl) (fun x => ((x.setCell ⟨w.heap.size + 2, 0, none⟩ (.int .u64 0)).setCell ⟨w.heap.size + 2, 1, none⟩ (.int .u64 (tn (minU x0.hi x1.hi))))) (by intro x hx; obtain ⟨u0, z0⟩ := hx.has 2 0 rfl (by simp); have q0 := hx.soft 2 0 rfl; obtain ⟨u1, z1⟩ := hx.has 2 1 rfl (by simp); have q1 := hx.soft 2 1 rfl; go_simp; (first | done | rfl)) (fun x hx => ((hx.put 2 0 (.int .u64 0) rfl).put 2 1 (.int .u64 (tn (minU x0.hi x1.hi))) rfl)) ?_
  refine lin_done ?_
  intro W1 hx
  replace HS := hid hx
  clear hx
  go_wp2
  have r0 := HS.out.load 2 0 rfl rfl
  have r1 := HS.out.load 2 1 rfl rfl
  exact bodyPost_ret (v := .agg #[.int .u64 0, .int .u64 (tn (minU x0.hi x1.hi))]) (by simp [results, Try.results36, go_sem, r0, r1]) rfl ⟨rfl, HS.out.below⟩
def ref_Cut (x0 : P) : P :=
  bif geU (x0.hi - x0.lo) 4294967296#64 then (P.mk 0#64 4294967295#64) else (bif (!(leU (P.mk (x0.lo % 4294967296#64) (x0.hi % 4294967296#64)).lo (P.mk (x0.lo % 4294967296#64) (x0.hi % 4294967296#64)).hi)) then (P.mk 0#64 4294967295#64) else (P.mk (x0.lo % 4294967296#64) (x0.hi % 4294967296#64)))
set_option maxRecDepth 100000 in
set_option maxHeartbeats 1000000 in
theorem ref_Cut_any (x0 : P)  (w : World) :
    Calls Try.prog 46 #[.agg #[.int .u64 (tn (x0.lo)), .int .u64 (tn (x0.hi))]] w fun e w' => e = .returned (.agg #[.int .u64 (tn ((ref_Cut x0).lo)), .int .u64 (tn ((ref_Cut x0).hi))]) ∧ Below w.heap.size w w' := by
  go_enter Try.func46, Try.ntmps46
  have HS := hid (((st_nil w).alloc (k := w.heap.size) rfl [.int .u64 (tn (x0.lo)), .int .u64 (tn (x0.hi))] 24).alloc (k := w.heap.size + 1) (by simp) [.int .u64 0, .int .u64 0] 24)
  -- region 1
  go_upto_region 1 with fail
  refine lin_begin (St w [⟨w.heap.size, [some (.int .u64 (tn (x0.lo))), some (.int .u64 (tn (x0.hi)))], 24⟩, ⟨w.heap.size + 1, [some (.int .u64 0), some (.int .u64 0)], 24⟩]) rfl HS.out ?_
  refine lin_val (i := 0) (v := .pointer (some ⟨w.heap.size, 0, none⟩)) rfl rfl (by rfl) (by intro x hx; go_simp; (first | done | exact rfl)) ?_
  simp only [List.set_cons_succ, List.set_cons_zero]
  refine lin_val (i := 1) (v := .int .u64 (tn (x0.lo))) rfl rfl (by rfl) (by intro x hx; have f0 := hx.load 0 0 rfl rfl; go_simp; (first | done | exact rfl)) ?_
  simp only [List.set_cons_succ, List.set_cons_zero]
  refine lin_val (i := 2) (v := .int .u64 (tn (x0.lo % 4294967296#64))) rfl rfl (by rfl) (by intro x hx; go_simp; (first | done | exact remUT x0.lo 4294967296#64 | exact congrArg _ (remUT x0.lo 4294967296#64) | (rw [remUT x0.lo 4294967296#64]; done) | (rw [remUT x0.lo 4294967296#64]; rfl))) ?_
  simp only [List.set_cons_succ, List.set_cons_zero]
  refine lin_val (i := 3) (v := .pointer (some ⟨w.heap.size, 1, none⟩)) rfl rfl (by rfl) (by intro x hx; go_simp; (first | done | exact rfl)) ?_
  simp only [List.set_cons_succ, List.set_cons_zero]
  refine lin_val (i := 4) (v := .int .u64 (tn (x0.hi))) rfl rfl (by rfl) (by intro x hx; have f0 := hx.load 0 1 rfl rfl; go_simp; (first | done | exact rfl)) ?_
  simp only [List.set_cons_succ, List.set_cons_zero]
  refine lin_val (i := 5) (v := .int .u64 (tn (x0.hi % 4294967296#64))) rfl rfl (by rfl) (by intro x hx; go_simp; (first | done | exact remUT x0.hi 4294967296#64 | exact congrArg _ (remUT x0.hi 4294967296#64) | (rw [remUT x0.hi 4294967296#64]; done) | (rw [remUT x0.hi 4294967296#64]; rfl))) ?_
  simp only [List.set_cons_succ, List.set_cons_zero]
  refine lin_val (i := 6) (v := .agg #[.int .u64 (tn (x0.lo % 4294967296#64)), .int .u64 (tn (x0.hi % 4294967296#64))]) rfl rfl (by rfl) (by intro x hx; go_simp; (first | done | exact rfl)) ?_
  simp only [List.set_cons_succ, List.set_cons_zero]
  refine lin_new (i := 7) rfl rfl (by rfl) [.int .u64 0, .int .u64 0] 24 (fun k => .pointer (some ⟨k, 0, none⟩)) [some (.int .u64 0), some (.int .u64 0)] (lessC_eq (lessC_eq (trivial))) (by intro x hx; go_simp; (first | done | exact rfl)) (fun k1 => ?_)
  simp only [List.set_cons_succ, List.set_cons_zero]
  refine lin_store (i := 8) (St w [⟨w.heap.size, [some (.int .u64 (tn (x0.lo))), some (.int .u64 (tn (x0.hi)))], 24⟩, ⟨w.heap.size + 1, [some (.int .u64 0), some (.int .u64 0)], 24⟩, ⟨k1, [some (.int .u64 (tn (x0.lo % 4294967296#64))), some (.int .u64 (tn (x0.hi % 4294967296#64)))], 24⟩]) rfl rfl (by rfl) (fun x => ((x.setCell ⟨k1, 0, none⟩ (.int .u64 (tn (x0.lo % 4294967296#64)))).setCell ⟨k1, 1, none⟩ (.int .u64 (tn (x0.hi % 4294967296#64))))) (by intro x hx; obtain ⟨u0, z0⟩ := hx.has 2 0 rfl (by simp); have q0 := hx.soft 2 0 rfl; obtain ⟨u1, z1⟩ := hx.has 2 1 rfl (by simp); have q1 := hx.soft 2 1 rfl; go_simp; (first | done | rfl)) (fun x hx => ((hx.put 2 0 (.int .u64 (tn (x0.lo % 4294967296#64))) rfl).put 2 1 (.int .u64 (tn (x0.hi % 4294967296#64))) rfl)) ?_
  refine lin_done ?_
  intro W1 hx
  replace HS := hid hx
  clear hx
  -- region 2
  go_upto_region 2 with fail
  refine lin_begin (St w [⟨w.heap.size, [some (.int .u64 (tn (x0.lo))), some (.int .u64 (tn (x0.hi)))], 24⟩, ⟨w.heap.size + 1, [some (.int .u64 0), some (.int .u64 0)], 24⟩, ⟨k1, [some (.int .u64 (tn (x0.lo % 4294967296#64))), some (.int .u64 (tn (x0.hi % 4294967296#64)))], 24⟩]) rfl HS.out ?_
  refine lin_val (i := 0) (v := .pointer (some ⟨w.heap.size, 1, none⟩)) rfl rfl (by rfl) (by intro x hx; go_simp; (first | done | exact rfl)) ?_
  simp only [List.set_cons_succ, List.set_cons_zero]
  refine lin_val (i := 1) (v := .int .u64 (tn (x0.hi))) rfl rfl (by rfl) (by intro x hx; have f0 := hx.load 0 1 rfl rfl; go_simp; (first | done | exact rfl)) ?_
  simp only [List.set_cons_succ, List.set_cons_zero]
  refine lin_val (i := 2) (v := .pointer (some ⟨w.heap.size, 0, none⟩)) rfl rfl (by rfl) (by intro x hx; go_simp; (first | done | exact rfl)) ?_
  simp only [List.set_cons_succ, List.set_cons_zero]
  refine lin_val (i := 3) (v := .int .u64 (tn (x0.lo))) rfl rfl (by rfl) (by intro x hx; have f0 := hx.load 0 0 rfl rfl; go_simp; (first | done | exact rfl)) ?_
  simp only [List.set_cons_succ, List.set_cons_zero]
  refine lin_val (i := 4) (v := .int .u64 (tn (x0.hi - x0.lo))) rfl rfl (by rfl) (by intro x hx; go_simp; (first | done | exact subUT x0.hi x0.lo | exact congrArg _ (subUT x0.hi x0.lo) | (rw [subUT x0.hi x0.lo]; done) | (rw [subUT x0.hi x0.lo]; rfl))) ?_
  simp only [List.set_cons_succ, List.set_cons_zero]
  refine lin_val (i := 5) (v := .bool (geU (x0.hi - x0.lo) 4294967296#64)) rfl rfl (by rfl) (by intro x hx; go_simp; (first | done | exact geUT (x0.hi - x0.lo) 4294967296#64 | exact congrArg _ (geUT (x0.hi - x0.lo) 4294967296#64) | (rw [geUT (x0.hi - x0.lo) 4294967296#64]; done) | (rw [geUT (x0.hi - x0.lo) 4294967296#64]; rfl))) ?_
  simp only [List.set_cons_succ, List.set_cons_zero]
  refine lin_val (i := 6) (v := .bool (geU (x0.hi - x0.lo) 4294967296#64)) rfl rfl (by rfl) (by intro x hx; go_simp; (first | done | exact rfl)) ?_
  simp only [List.set_cons_succ, List.set_cons_zero]
  cases h1 : (geU (x0.hi - x0.lo) 4294967296#64)
  · replace h1 := hid h1
    refine lin_val (i := 7) (v := .agg #[.int .u64 (tn (x0.lo % 4294967296#64)), .int .u64 (tn (x0.hi % 4294967296#64))]) rfl rfl (by rfl) (by intro x hx; have f0 := hx.load 2 0 rfl rfl; have f1 := hx.load 2 1 rfl rfl; go_simp; (first | done | exact rfl)) ?_
    simp only [List.set_cons_succ, List.set_cons_zero]
    refine lin_call (i := 8) (f := 11) (args := #[.agg #[.int .u64 (tn (x0.lo % 4294967296#64)), .int .u64 (tn (x0.hi % 4294967296#64))]]) (v := .bool (leU (P.mk (x0.lo % 4294967296#64) (x0.hi % 4294967296#64)).lo (P.mk (x0.lo % 4294967296#64) (x0.hi % 4294967296#64)).hi)) (st_ups _ _) rfl rfl (by rfl) (fun x hx => by kernel_rfl) (by intro x hx; exact ref_May_any (P.mk (x0.lo % 4294967296#64) (x0.hi % 4294967296#64)) _) ?_
    simp only [List.set_cons_succ, List.set_cons_zero]
    refine lin_val (i := 9) (v := .bool ((!(leU (P.mk (x0.lo % 4294967296#64) (x0.hi % 4294967296#64)).lo (P.mk (x0.lo % 4294967296#64) (x0.hi % 4294967296#64)).hi)))) rfl rfl (by rfl) (by intro x hx; go_simp; (first | done | exact rfl)) ?_
    simp only [List.set_cons_succ, List.set_cons_zero]
    refine lin_val (i := 10) (v := .bool ((!(leU (P.mk (x0.lo % 4294967296#64) (x0.hi % 4294967296#64)).lo (P.mk (x0.lo % 4294967296#64) (x0.hi % 4294967296#64)).hi)))) rfl rfl (by rfl) (by intro x hx; go_simp; (first | done | exact rfl)) ?_
    simp only [List.set_cons_succ, List.set_cons_zero]
    refine lin_done ?_
    intro W2 hx
    replace HS := hid hx
    clear hx
    cases h2 : ((!(leU (P.mk (x0.lo % 4294967296#64) (x0.hi % 4294967296#64)).lo (P.mk (x0.lo % 4294967296#64) (x0.hi % 4294967296#64)).hi)))
    · replace h2 := hid h2
      -- region 4
      go_upto_region 4 with fail
      refine lin_begin (St w [⟨w.heap.size, [some (.int .u64 (tn (x0.lo))), some (.int .u64 (tn (x0.hi)))], 24⟩, ⟨w.heap.size + 1, [some (.int .u64 0), some (.int .u64 0)], 24⟩, ⟨k1, [some (.int .u64 (tn (x0.lo % 4294967296#64))), some (.int .u64 (tn (x0.hi % 4294967296#64)))], 24⟩]) rfl HS.out ?_
      refine lin_val (i := 0) (v := .agg #[.int .u64 (tn (x0.lo % 4294967296#64)), .int .u64 (tn (x0.hi % 4294967296#64))]) rfl rfl (by rfl) (by intro x hx; have f0 := hx.load 2 0 rfl rfl; have f1 := hx.load 2 1 rfl rfl; go_simp; (first | done | exact rfl)) ?_
      simp only [List.set_cons_succ, List.set_cons_zero]
      refine lin_store (i := 1) (St w [⟨w.heap.size, [some (.int .u64 (tn (x0.lo))), some (.int .u64 (tn (x0.hi)))], 24⟩, ⟨w.heap.size + 1, [some (.int .u64 (tn (x0.lo % 4294967296#64))), some (.int .u64 (tn (x0.hi % 4294967296#64)))], 24⟩, ⟨k1, [some (.int .u64 (tn (x0.lo % 4294967296#64))), some (.int .u64 (tn (x0.hi % 4294967296#64)))], 24⟩]) rfl rfl (by rfl) (fun x => ((x.setCell ⟨w.heap.size + 1, 0, none⟩ (.int .u64 (tn (x0.lo % 4294967296#64)))).setCell ⟨w.heap.size + 1, 1, none⟩ (.int .u64 (tn (x0.hi % 4294967296#64))))) (by intro x hx; obtain ⟨u0, z0⟩ := hx.has 1 0 rfl (by simp); have q0 := hx.soft 1 0 rfl; obtain ⟨u1, z1⟩ := hx.has 1 1 rfl (by simp); have q1 := hx.soft 1 1 rfl; go_simp; (first | done | rfl)) (fun x hx => ((hx.put 1 0 (.int .u64 (tn (x0.lo % 4294967296#64))) rfl).put 1 1 (.int .u64 (tn (x0.hi % 4294967296#64))) rfl)) ?_
      refine lin_done ?_
      intro W3 hx
      replace HS := hid hx
      clear hx
      go_wp2
      have r0 := HS.out.load 1 0 rfl rfl
      have r1 := HS.out.load 1 1 rfl rfl
      have HF : ref_Cut x0 = P.mk (x0.lo % 4294967296#64) (x0.hi % 4294967296#64) := by
        unfold ref_Cut
        rw [cond_f h1.out, cond_f h2.out]
      exact bodyPost_ret (v := .agg #[.int .u64 (tn (x0.lo % 4294967296#64)), .int .u64 (tn (x0.hi % 4294967296#64))]) (by simp [results, Try.results46, go_sem, r0, r1]) rfl ⟨(by first | (rw [HF]; done) | (rw [HF]; rfl)), HS.out.below⟩
    · replace h2 := hid h2
      -- region 3
      go_upto_region 3 with fail
      refine lin_begin (St w [⟨w.heap.size, [some (.int .u64 (tn (x0.lo))), some (.int .u64 (tn (x0.hi)))], 24⟩, ⟨w.heap.size + 1, [some (.int .u64 0), some (.int .u64 0)], 24⟩, ⟨k1, [some (.int .u64 (tn (x0.lo % 4294967296#64))), some (.int .u64 (tn (x0.hi % 4294967296#64)))], 24⟩]) rfl HS.out ?_
      refine lin_val (i := 0) (v := .agg #[.int .u64 0, .int .u64 4294967295]) rfl rfl (by rfl) (by intro x hx; go_simp; (first | done | exact rfl)) ?_
      simp only [List.set_cons_succ, List.set_cons_zero]
      refine lin_store (i := 1) (St w [⟨w.heap.size, [some (.int .u64 (tn (x0.lo))), some (.int .u64 (tn (x0.hi)))], 24⟩, ⟨w.heap.size + 1, [some (.int .u64 0), some (.int .u64 4294967295)], 24⟩, ⟨k1, [some (.int .u64 (tn (x0.lo % 4294967296#64))), some (.int .u64 (tn (x0.hi % 4294967296#64)))], 24⟩]) rfl rfl (by rfl) (fun x => ((x.setCell ⟨w.heap.size + 1, 0, none⟩ (.int .u64 0)).setCell ⟨w.heap.size + 1, 1, none⟩ (.int .u64 4294967295))) (by intro x hx; obtain ⟨u0, z0⟩ := hx.has 1 0 rfl (by simp); have q0 := hx.soft 1 0 rfl; obtain ⟨u1, z1⟩ := hx.has 1 1 rfl (by simp); have q1 := hx.soft 1 1 rfl; go_simp; (first | done | rfl)) (fun x hx => ((hx.put 1 0 (.int .u64 0) rfl).put 1 1 (.int .u64 4294967295) rfl)) ?_
      refine lin_done ?_
      intro W3 hx
      replace HS := hid hx
      clear hx
      go_wp2
      have r0 := HS.out.load 1 0 rfl rfl
      have r1 := HS.out.load 1 1 rfl rfl
      have HF : ref_Cut x0 = P.mk 0#64 4294967295#64 := by
        unfold ref_Cut
        rw [cond_f h1.out, cond_t h2.out]
      exact bodyPost_ret (v := .agg #[.int .u64 0, .int .u64 4294967295]) (by simp [results, Try.results46, go_sem, r0, r1]) rfl ⟨(by first | (rw [HF]; done) | (rw [HF]; rfl)), HS.out.below⟩
  · replace h1 := hid h1
    refine lin_no (i := 7) rfl rfl (by kernel_rfl) ?_
    simp only [List.set_cons_succ, List.set_cons_zero]
    refine lin_no (i := 8) rfl rfl (by kernel_rfl) ?_
    simp only [List.set_cons_succ, List.set_cons_zero]
    refine lin_no (i := 9) rfl rfl (by kernel_rfl) ?_
    simp only [List.set_cons_succ, List.set_cons_zero]
    refine lin_val (i := 10) (v := .bool true) rfl rfl (by rfl) (by intro x hx; go_simp; (first | done | exact rfl)) ?_
    simp only [List.set_cons_succ, List.set_cons_zero]
    refine lin_done ?_
    intro W2 hx
    replace HS := hid hx
    clear hx
    -- region 3
    go_upto_region 3 with fail
    refine lin_begin (St w [⟨w.heap.size, [some (.int .u64 (tn (x0.lo))), some (.int .u64 (tn (x0.hi)))], 24⟩, ⟨w.heap.size + 1, [some (.int .u64 0), some (.int .u64 0)], 24⟩, ⟨k1, [some (.int .u64 (tn (x0.lo % 4294967296#64))), some (.int .u64 (tn (x0.hi % 4294967296#64)))], 24⟩]) rfl HS.out ?_
    refine lin_val (i := 0) (v := .agg #[.int .u64 0, .int .u64 4294967295]) rfl rfl (by rfl) (by intro x hx; go_simp; (first | done | exact rfl)) ?_
    simp only [List.set_cons_succ, List.set_cons_zero]
    refine lin_store (i := 1) (St w [⟨w.heap.size, [some (.int .u64 (tn (x0.lo))), some (.int .u64 (tn (x0.hi)))], 24⟩, ⟨w.heap.size + 1, [some (.int .u64 0), some (.int .u64 4294967295)], 24⟩, ⟨k1, [some (.int .u64 (tn (x0.lo % 4294967296#64))), some (.int .u64 (tn (x0.hi % 4294967296#64)))], 24⟩]) rfl rfl (by rfl) (fun x => ((x.setCell ⟨w.heap.size + 1, 0, none⟩ (.int .u64 0)).setCell ⟨w.heap.size + 1, 1, none⟩ (.int .u64 4294967295))) (by intro x hx; obtain ⟨u0, z0⟩ := hx.has 1 0 rfl (by simp); have q0 := hx.soft 1 0 rfl; obtain ⟨u1, z1⟩ := hx.has 1 1 rfl (by simp); have q1 := hx.soft 1 1 rfl; go_simp; (first | done | rfl)) (fun x hx => ((hx.put 1 0 (.int .u64 0) rfl).put 1 1 (.int .u64 4294967295) rfl)) ?_
    refine lin_done ?_
    intro W3 hx
    replace HS := hid hx
    clear hx
    go_wp2
    have r0 := HS.out.load 1 0 rfl rfl
    have r1 := HS.out.load 1 1 rfl rfl
    have HF : ref_Cut x0 = P.mk 0#64 4294967295#64 := by
      unfold ref_Cut
      rw [cond_t h1.out]
    exact bodyPost_ret (v := .agg #[.int .u64 0, .int .u64 4294967295]) (by simp [results, Try.results46, go_sem, r0, r1]) rfl ⟨(by first | (rw [HF]; done) | (rw [HF]; rfl)), HS.out.below⟩
def ref_ssums (x0 : BitVec 64) (x1 : BitVec 64) : Bool :=
  bif geI x1 0#64 then (leI x0 (9223372036854775807#64 - x1)) else (geI x0 (9223372036854775808#64 - x1))
set_option maxRecDepth 100000 in
set_option maxHeartbeats 1000000 in
theorem ref_ssums_any (x0 : BitVec 64) (x1 : BitVec 64)  (w : World) :
    Calls Try.prog 107 #[.int .i64 (ti (x0)), .int .i64 (ti (x1))] w fun e w' => e = .returned (.bool (ref_ssums x0 x1)) ∧ Below w.heap.size w w' := by
  go_enter Try.func107, Try.ntmps107
  have HS := hid (st_nil w)
  -- region 1
  go_upto_region 1 with fail
  refine lin_begin (St w []) rfl HS.out ?_
  refine lin_val (i := 0) (v := .int .i64 (ti (x1))) rfl rfl (by rfl) (by intro x hx; go_simp; (first | done | exact rfl)) ?_
  simp only [List.set_cons_succ, List.set_cons_zero]
  refine lin_val (i := 1) (v := .bool (geI x1 0#64)) rfl rfl (by rfl) (by intro x hx; go_simp; (first | done | exact geIT x1 0#64 | exact congrArg _ (geIT x1 0#64) | (rw [geIT x1 0#64]; done) | (rw [geIT x1 0#64]; rfl))) ?_
  simp only [List.set_cons_succ, List.set_cons_zero]
  refine lin_done ?_
  intro W1 hx
  replace HS := hid hx
  clear hx
  cases h1 : (geI x1 0#64)
  · replace h1 := hid h1
    -- region 3
    go_upto_region 3 with fail
    refine lin_begin (St w []) rfl HS.out ?_
    refine lin_val (i := 0) (v := .int .i64 (ti (x0))) rfl rfl (by rfl) (by intro x hx; go_simp; (first | done | exact rfl)) ?_
    simp only [List.set_cons_succ, List.set_cons_zero]
    refine lin_val (i := 1) (v := .int .i64 (ti (x1))) rfl rfl (by rfl) (by intro x hx; go_simp; (first | done | exact rfl)) ?_
    simp only [List.set_cons_succ, List.set_cons_zero]
    refine lin_val (i := 2) (v := .int .i64 (ti (9223372036854775808#64 - x1))) rfl rfl (by rfl) (by intro x hx; exact (show _ = Result.ok (Next.value (.int .i64 (IntKind.i64.wrap (((-9223372036854775808) : Int) - (ti (x1)))))) x by kernel_rfl).trans (by rw [show ((-9223372036854775808) : Int) = ti 9223372036854775808#64 from by decide, subIT 9223372036854775808#64 x1])) ?_
    simp only [List.set_cons_succ, List.set_cons_zero]
    refine lin_val (i := 3) (v := .bool (geI x0 (9223372036854775808#64 - x1))) rfl rfl (by rfl) (by intro x hx; go_simp; (first | done | exact geIT x0 (9223372036854775808#64 - x1) | exact congrArg _ (geIT x0 (9223372036854775808#64 - x1)) | (rw [geIT x0 (9223372036854775808#64 - x1)]; done) | (rw [geIT x0 (9223372036854775808#64 - x1)]; rfl))) ?_
    simp only [List.set_cons_succ, List.set_cons_zero]
    refine lin_val (i := 4) (v := .bool (geI x0 (9223372036854775808#64 - x1))) rfl rfl (by rfl) (by intro x hx; go_simp; (first | done | exact rfl)) ?_
    simp only [List.set_cons_succ, List.set_cons_zero]
    refine lin_done ?_
    intro W2 hx
    replace HS := hid hx
    clear hx
    go_wp2
    have HF : ref_ssums x0 x1 = geI x0 (9223372036854775808#64 - x1) := by
      unfold ref_ssums
      rw [cond_f h1.out]
    exact bodyPost_ret (v := .bool (geI x0 (9223372036854775808#64 - x1))) (by simp [results, Try.results107, go_sem]) rfl ⟨(by first | (rw [HF]; done) | (rw [HF]; rfl)), HS.out.below⟩
  · replace h1 := hid h1
    -- region 2
    go_upto_region 2 with fail
    refine lin_begin (St w []) rfl HS.out ?_
    refine lin_val (i := 0) (v := .int .i64 (ti (x0))) rfl rfl (by rfl) (by intro x hx; go_simp; (first | done | exact rfl)) ?_
    simp only [List.set_cons_succ, List.set_cons_zero]
    refine lin_val (i := 1) (v := .int .i64 (ti (x1))) rfl rfl (by rfl) (by intro x hx; go_simp; (first | done | exact rfl)) ?_
    simp only [List.set_cons_succ, List.set_cons_zero]
    refine lin_val (i := 2) (v := .int .i64 (ti (9223372036854775807#64 - x1))) rfl rfl (by rfl) (by intro x hx; exact (show _ = Result.ok (Next.value (.int .i64 (IntKind.i64.wrap ((9223372036854775807 : Int) - (ti (x1)))))) x by kernel_rfl).trans (by rw [show (9223372036854775807 : Int) = ti 9223372036854775807#64 from by decide, subIT 9223372036854775807#64 x1])) ?_
    simp only [List.set_cons_succ, List.set_cons_zero]
    refine lin_val (i := 3) (v := .bool (leI x0 (9223372036854775807#64 - x1))) rfl rfl (by rfl) (by intro x hx; go_simp; (first | done | exact leIT x0 (9223372036854775807#64 - x1) | exact congrArg _ (leIT x0 (9223372036854775807#64 - x1)) | (rw [leIT x0 (9223372036854775807#64 - x1)]; done) | (rw [leIT x0 (9223372036854775807#64 - x1)]; rfl))) ?_
    simp only [List.set_cons_succ, List.set_cons_zero]
    refine lin_val (i := 4) (v := .bool (leI x0 (9223372036854775807#64 - x1))) rfl rfl (by rfl) (by intro x hx; go_simp; (first | done | exact rfl)) ?_
    simp only [List.set_cons_succ, List.set_cons_zero]
    refine lin_done ?_
    intro W2 hx
    replace HS := hid hx
    clear hx
    go_wp2
    have HF : ref_ssums x0 x1 = leI x0 (9223372036854775807#64 - x1) := by
      unfold ref_ssums
      rw [cond_t h1.out]
    exact bodyPost_ret (v := .bool (leI x0 (9223372036854775807#64 - x1))) (by simp [results, Try.results107, go_sem]) rfl ⟨(by first | (rw [HF]; done) | (rw [HF]; rfl)), HS.out.below⟩
def ref_Sadd (x0 : P) (x1 : P) : P :=
  bif (!(ref_ssums x0.lo x1.lo)) then (P.mk 9223372036854775808#64 9223372036854775807#64) else (bif (!(ref_ssums x0.hi x1.hi)) then (P.mk 9223372036854775808#64 9223372036854775807#64) else (P.mk (x0.lo + x1.lo) (x0.hi + x1.hi)))
set_option maxRecDepth 100000 in
set_option maxHeartbeats 1000000 in
theorem ref_Sadd_any (x0 : P) (x1 : P)  (w : World) :
    Calls Try.prog 61 #[.agg #[.int .i64 (ti (x0.lo)), .int .i64 (ti (x0.hi))], .agg #[.int .i64 (ti (x1.lo)), .int .i64 (ti (x1.hi))]] w fun e w' => e = .returned (.agg #[.int .i64 (ti ((ref_Sadd x0 x1).lo)), .int .i64 (ti ((ref_Sadd x0 x1).hi))]) ∧ Below w.heap.size w w' := by
  go_enter Try.func61, Try.ntmps61
  have HS := hid ((((st_nil w).alloc (k := w.heap.size) rfl [.int .i64 (ti (x0.lo)), .int .i64 (ti (x0.hi))] 38).alloc (k := w.heap.size + 1) (by simp) [.int .i64 (ti (x1.lo)), .int .i64 (ti (x1.hi))] 38).alloc (k := w.heap.size + 2) (by simp) [.int .i64 0, .int .i64 0] 38)
  -- region 1
  go_upto_region 1 with fail
  refine lin_begin (St w [⟨w.heap.size, [some (.int .i64 (ti (x0.lo))), some (.int .i64 (ti (x0.hi)))], 38⟩, ⟨w.heap.size + 1, [some (.int .i64 (ti (x1.lo))), some (.int .i64 (ti (x1.hi)))], 38⟩, ⟨w.heap.size + 2, [some (.int .i64 0), some (.int .i64 0)], 38⟩]) rfl HS.out ?_
  refine lin_val (i := 0) (v := .pointer (some ⟨w.heap.size, 0, none⟩)) rfl rfl (by rfl) (by intro x hx; go_simp; (first | done | exact rfl)) ?_
  simp only [List.set_cons_succ, List.set_cons_zero]
  refine lin_val (i := 1) (v := .int .i64 (ti (x0.lo))) rfl rfl (by rfl) (by intro x hx; have f0 := hx.load 0 0 rfl rfl; go_simp; (first | done | exact rfl)) ?_
  simp only [List.set_cons_succ, List.set_cons_zero]
  refine lin_val (i := 2) (v := .pointer (some ⟨w.heap.size + 1, 0, none⟩)) rfl rfl (by rfl) (by intro x hx; go_simp; (first | done | exact rfl)) ?_
  simp only [List.set_cons_succ, List.set_cons_zero]
  refine lin_val (i := 3) (v := .int .i64 (ti (x1.lo))) rfl rfl (by rfl) (by intro x hx; have f0 := hx.load 1 0 rfl rfl; go_simp; (first | done | exact rfl)) ?_
  simp only [List.set_cons_succ, List.set_cons_zero]
  refine lin_call (i := 4) (f := 107) (args := #[.int .i64 (ti (x0.lo)), .int .i64 (ti (x1.lo))]) (v := .bool (ref_ssums x0.lo x1.lo)) (st_ups _ _) rfl rfl (by rfl) (fun x hx => by kernel_rfl) (by intro x hx; exact ref_ssums_any x0.lo x1.lo _) ?_
  simp only [List.set_cons_succ, List.set_cons_zero]
  refine lin_val (i := 5) (v := .bool ((!(ref_ssums x0.lo x1.lo)))) rfl rfl (by rfl) (by intro x hx; go_simp; (first | done | exact rfl)) ?_
  simp only [List.set_cons_succ, List.set_cons_zero]
  refine lin_val (i := 6) (v := .bool ((!(ref_ssums x0.lo x1.lo)))) rfl rfl (by rfl) (by intro x hx; go_simp; (first | done | exact rfl)) ?_
  simp only [List.set_cons_succ, List.set_cons_zero]
  cases h1 : ((!(ref_ssums x0.lo x1.lo)))
  · replace h1 := hid h1
    refine lin_val (i := 7) (v := .pointer (some ⟨w.heap.size, 1, none⟩)) rfl rfl (by rfl) (by intro x hx; go_simp; (first | done | exact rfl)) ?_
    simp only [List.set_cons_succ, List.set_cons_zero]
    refine lin_val (i := 8) (v := .int .i64 (ti (x0.hi))) rfl rfl (by rfl) (by intro x hx; have f0 := hx.load 0 1 rfl rfl; go_simp; (first | done | exact rfl)) ?_
    simp only [List.set_cons_succ, List.set_cons_zero]
    refine lin_val (i := 9) (v := .pointer (some ⟨w.heap.size + 1, 1, none⟩)) rfl rfl (by rfl) (by intro x hx; go_simp; (first | done | exact rfl)) ?_
    simp only [List.set_cons_succ, List.set_cons_zero]
    refine lin_val (i := 10) (v := .int .i64 (ti (x1.hi))) rfl rfl (by rfl) (by intro x hx; have f0 := hx.load 1 1 rfl rfl; go_simp; (first | done | exact rfl)) ?_
    simp only [List.set_cons_succ, List.set_cons_zero]
    refine lin_call (i := 11) (f := 107) (args := #[.int .i64 (ti (x0.hi)), .int .i64 (ti (x1.hi))]) (v := .bool (ref_ssums x0.hi x1.hi)) (st_ups _ _) rfl rfl (by rfl) (fun x hx => by kernel_rfl) (by intro x hx; exact ref_ssums_any x0.hi x1.hi _) ?_
    simp only [List.set_cons_succ, List.set_cons_zero]
    refine lin_val (i := 12) (v := .bool ((!(ref_ssums x0.hi x1.hi)))) rfl rfl (by rfl) (by intro x hx; go_simp; (first | done | exact rfl)) ?_
    simp only [List.set_cons_succ, List.set_cons_zero]
    refine lin_val (i := 13) (v := .bool ((!(ref_ssums x0.hi x1.hi)))) rfl rfl (by rfl) (by intro x hx; go_simp; (first | done | exact rfl)) ?_
    simp only [List.set_cons_succ, List.set_cons_zero]
    refine lin_done ?_
    intro W1 hx
    replace HS := hid hx
    clear hx
    cases h2 : ((!(ref_ssums x0.hi x1.hi)))
    · replace h2 := hid h2
      -- region 3
      go_upto_region 3 with fail
      refine lin_begin (St w [⟨w.heap.size, [some (.int .i64 (ti (x0.lo))), some (.int .i64 (ti (x0.hi)))], 38⟩, ⟨w.heap.size + 1, [some (.int .i64 (ti (x1.lo))), some (.int .i64 (ti (x1.hi)))], 38⟩, ⟨w.heap.size + 2, [some (.int .i64 0), some (.int .i64 0)], 38⟩]) rfl HS.out ?_
      refine lin_val (i := 0) (v := .pointer (some ⟨w.heap.size, 0, none⟩)) rfl rfl (by rfl) (by intro x hx; go_simp; (first | done | exact rfl)) ?_
      simp only [List.set_cons_succ, List.set_cons_zero]
      refine lin_val (i := 1) (v := .int .i64 (ti (x0.lo))) rfl rfl (by rfl) (by intro x hx; have f0 := hx.load 0 0 rfl rfl; go_simp; (first | done | exact rfl)) ?_
      simp only [List.set_cons_succ, List.set_cons_zero]
      refine lin_val (i := 2) (v := .pointer (some ⟨w.heap.size + 1, 0, none⟩)) rfl rfl (by rfl) (by intro x hx; go_simp; (first | done | exact rfl)) ?_
      simp only [List.set_cons_succ, List.set_cons_zero]
      refine lin_val (i := 3) (v := .int .i64 (ti (x1.lo))) rfl rfl (by rfl) (by intro x hx; have f0 := hx.load 1 0 rfl rfl; go_simp; (first | done | exact rfl)) ?_
      simp only [List.set_cons_succ, List.set_cons_zero]
      refine lin_val (i := 4) (v := .int .i64 (ti (x0.lo + x1.lo))) rfl rfl (by rfl) (by intro x hx; go_simp; (first | done | exact addIT x0.lo x1.lo | exact congrArg _ (addIT x0.lo x1.lo) | (rw [addIT x0.lo x1.lo]; done) | (rw [addIT x0.lo x1.lo]; rfl))) ?_
      simp only [List.set_cons_succ, List.set_cons_zero]
      refine lin_val (i := 5) (v := .pointer (some ⟨w.heap.size, 1, none⟩)) rfl rfl (by rfl) (by intro x hx; go_simp; (first | done | exact rfl)) ?_
      simp only [List.set_cons_succ, List.set_cons_zero]
      refine lin_val (i := 6) (v := .int .i64 (ti (x0.hi))) rfl rfl (by rfl) (by intro x hx; have f0 := hx.load 0 1 rfl rfl; go_simp; (first | done | exact rfl)) ?_
      simp only [List.set_cons_succ, List.set_cons_zero]
      refine lin_val (i := 7) (v := .pointer (some ⟨w.heap.size + 1, 1, none⟩)) rfl rfl (by rfl) (by intro x hx; go_simp; (first | done | exact rfl)) ?_
      simp only [List.set_cons_succ, List.set_cons_zero]
      refine lin_val (i := 8) (v := .int .i64 (ti (x1.hi))) rfl rfl (by rfl) (by intro x hx; have f0 := hx.load 1 1 rfl rfl; go_simp; (first | done | exact rfl)) ?_
      simp only [List.set_cons_succ, List.set_cons_zero]
      refine lin_val (i := 9) (v := .int .i64 (ti (x0.hi + x1.hi))) rfl rfl (by rfl) (by intro x hx; go_simp; (first | done | exact addIT x0.hi x1.hi | exact congrArg _ (addIT x0.hi x1.hi) | (rw [addIT x0.hi x1.hi]; done) | (rw [addIT x0.hi x1.hi]; rfl))) ?_
      simp only [List.set_cons_succ, List.set_cons_zero]
      refine lin_val (i := 10) (v := .agg #[.int .i64 (ti (x0.lo + x1.lo)), .int .i64 (ti (x0.hi + x1.hi))]) rfl rfl (by rfl) (by intro x hx; go_simp; (first | done | exact rfl)) ?_
      simp only [List.set_cons_succ, List.set_cons_zero]
      refine lin_store (i := 11) (St w [⟨w.heap.size, [some (.int .i64 (ti (x0.lo))), some (.int .i64 (ti (x0.hi)))], 38⟩, ⟨w.heap.size + 1, [some (.int .i64 (ti (x1.lo))), some (.int .i64 (ti (x1.hi)))], 38⟩, ⟨w.heap.size + 2, [some (.int .i64 (ti (x0.lo + x1.lo))), some (.int .i64 (ti (x0.hi + x1.hi)))], 38⟩]) rfl rfl (by rfl) (fun x => ((x.setCell ⟨w.heap.size + 2, 0, none⟩ (.int .i64 (ti (x0.lo + x1.lo)))).setCell ⟨w.heap.size + 2, 1, none⟩ (.int .i64 (ti (x0.hi + x1.hi))))) (by intro x hx; obtain ⟨u0, z0⟩ := hx.has 2 0 rfl (by simp); have q0 := hx.soft 2 0 rfl; obtain ⟨u1, z1⟩ := hx.has 2 1 rfl (by simp); have q1 := hx.soft 2 1 rfl; go_simp; (first | done | rfl)) (fun x hx => ((hx.put 2 0 (.int .i64 (ti (x0.lo + x1.lo))) rfl).put 2 1 (.int .i64 (ti (x0.hi + x1.hi))) rfl)) ?_
      refine lin_done ?_
      intro W2 hx
      replace HS := hid hx
      clear hx
      go_wp2
      have r0 := HS.out.load 2 0 rfl rfl
      have r1 := HS.out.load 2 1 rfl rfl
      have HF : ref_Sadd x0 x1 = P.mk (x0.lo + x1.lo) (x0.hi + x1.hi) := by
        unfold ref_Sadd
        rw [cond_f h1.out, cond_f h2.out]
      exact bodyPost_ret (v := .agg #[.int .i64 (ti (x0.lo + x1.lo)), .int .i64 (ti (x0.hi + x1.hi))]) (by simp [results, Try.results61, go_sem, r0, r1]) rfl ⟨(by first | (rw [HF]; done) | (rw [HF]; rfl)), HS.out.below⟩
    · replace h2 := hid h2
      -- region 2
      go_upto_region 2 with fail
      refine lin_begin (St w [⟨w.heap.size, [some (.int .i64 (ti (x0.lo))), some (.int .i64 (ti (x0.hi)))], 38⟩, ⟨w.heap.size + 1, [some (.int .i64 (ti (x1.lo))), some (.int .i64 (ti (x1.hi)))], 38⟩, ⟨w.heap.size + 2, [some (.int .i64 0), some (.int .i64 0)], 38⟩]) rfl HS.out ?_
      refine lin_call (i := 0) (f := 53) (args := #[]) (v := .agg #[.int .i64 (ti (9223372036854775808#64)), .int .i64 (ti (9223372036854775807#64))]) (st_ups _ _) rfl rfl (by rfl) (fun x hx => by kernel_rfl) (by intro x hx; exact ref_Sall_any _) ?_
      simp only [List.set_cons_succ, List.set_cons_zero]
      refine lin_store (i := 1) (St w [⟨w.heap.size, [some (.int .i64 (ti (x0.lo))), some (.int .i64 (ti (x0.hi)))], 38⟩, ⟨w.heap.size + 1, [some (.int .i64 (ti (x1.lo))), some (.int .i64 (ti (x1.hi)))], 38⟩, ⟨w.heap.size + 2, [some (.int .i64 (ti (9223372036854775808#64))), some (.int .i64 (ti (9223372036854775807#64)))], 38⟩]) rfl rfl (by rfl) (fun x => ((x.setCell ⟨w.heap.size + 2, 0, none⟩ (.int .i64 (ti (9223372036854775808#64)))).setCell ⟨w.heap.size + 2, 1, none⟩ (.int .i64 (ti (9223372036854775807#64))))) (by intro x hx; obtain ⟨u0, z0⟩ := hx.has 2 0 rfl (by simp); have q0 := hx.soft 2 0 rfl; obtain ⟨u1, z1⟩ := hx.has 2 1 rfl (by simp); have q1 := hx.soft 2 1 rfl; go_simp; (first | done | rfl)) (fun x hx => ((hx.put 2 0 (.int .i64 (ti (9223372036854775808#64))) rfl).put 2 1 (.int .i64 (ti (9223372036854775807#64))) rfl)) ?_
      refine lin_done ?_
      intro W2 hx
      replace HS := hid hx
      clear hx
      go_wp2
      have r0 := HS.out.load 2 0 rfl rfl
      have r1 := HS.out.load 2 1 rfl rfl
      have HF : ref_Sadd x0 x1 = P.mk 9223372036854775808#64 9223372036854775807#64 := by
        unfold ref_Sadd
        rw [cond_f h1.out, cond_t h2.out]
      exact bodyPost_ret (v := .agg #[.int .i64 (ti (9223372036854775808#64)), .int .i64 (ti (9223372036854775807#64))]) (by simp [results, Try.results61, go_sem, r0, r1]) rfl ⟨(by first | (rw [HF]; done) | (rw [HF]; rfl)), HS.out.below⟩
  · replace h1 := hid h1
    refine lin_no (i := 7) rfl rfl (by kernel_rfl) ?_
    simp only [List.set_cons_succ, List.set_cons_zero]
    refine lin_no (i := 8) rfl rfl (by kernel_rfl) ?_
    simp only [List.set_cons_succ, List.set_cons_zero]
    refine lin_no (i := 9) rfl rfl (by kernel_rfl) ?_
    simp only [List.set_cons_succ, List.set_cons_zero]
    refine lin_no (i := 10) rfl rfl (by kernel_rfl) ?_
    simp only [List.set_cons_succ, List.set_cons_zero]
    refine lin_no (i := 11) rfl rfl (by kernel_rfl) ?_
    simp only [List.set_cons_succ, List.set_cons_zero]
    refine lin_no (i := 12) rfl rfl (by kernel_rfl) ?_
    simp only [List.set_cons_succ, List.set_cons_zero]
    refine lin_val (i := 13) (v := .bool true) rfl rfl (by rfl) (by intro x hx; go_simp; (first | done | exact rfl)) ?_
    simp only [List.set_cons_succ, List.set_cons_zero]
    refine lin_done ?_
    intro W1 hx
    replace HS := hid hx
    clear hx
    -- region 2
    go_upto_region 2 with fail
    refine lin_begin (St w [⟨w.heap.size, [some (.int .i64 (ti (x0.lo))), some (.int .i64 (ti (x0.hi)))], 38⟩, ⟨w.heap.size + 1, [some (.int .i64 (ti (x1.lo))), some (.int .i64 (ti (x1.hi)))], 38⟩, ⟨w.heap.size + 2, [some (.int .i64 0), some (.int .i64 0)], 38⟩]) rfl HS.out ?_
    refine lin_call (i := 0) (f := 53) (args := #[]) (v := .agg #[.int .i64 (ti (9223372036854775808#64)), .int .i64 (ti (9223372036854775807#64))]) (st_ups _ _) rfl rfl (by rfl) (fun x hx => by kernel_rfl) (by intro x hx; exact ref_Sall_any _) ?_
    simp only [List.set_cons_succ, List.set_cons_zero]
    refine lin_store (i := 1) (St w [⟨w.heap.size, [some (.int .i64 (ti (x0.lo))), some (.int .i64 (ti (x0.hi)))], 38⟩, ⟨w.heap.size + 1, [some (.int .i64 (ti (x1.lo))), some (.int .i64 (ti (x1.hi)))], 38⟩, ⟨w.heap.size + 2, [some (.int .i64 (ti (9223372036854775808#64))), some (.int .i64 (ti (9223372036854775807#64)))], 38⟩]) rfl rfl (by rfl) (fun x => ((x.setCell ⟨w.heap.size + 2, 0, none⟩ (.int .i64 (ti (9223372036854775808#64)))).setCell ⟨w.heap.size + 2, 1, none⟩ (.int .i64 (ti (9223372036854775807#64))))) (by intro x hx; obtain ⟨u0, z0⟩ := hx.has 2 0 rfl (by simp); have q0 := hx.soft 2 0 rfl; obtain ⟨u1, z1⟩ := hx.has 2 1 rfl (by simp); have q1 := hx.soft 2 1 rfl; go_simp; (first | done | rfl)) (fun x hx => ((hx.put 2 0 (.int .i64 (ti (9223372036854775808#64))) rfl).put 2 1 (.int .i64 (ti (9223372036854775807#64))) rfl)) ?_
    refine lin_done ?_
    intro W2 hx
    replace HS := hid hx
    clear hx
    go_wp2
    have r0 := HS.out.load 2 0 rfl rfl
    have r1 := HS.out.load 2 1 rfl rfl
    have HF : ref_Sadd x0 x1 = P.mk 9223372036854775808#64 9223372036854775807#64 := by
      unfold ref_Sadd
      rw [cond_t h1.out]
    exact bodyPost_ret (v := .agg #[.int .i64 (ti (9223372036854775808#64)), .int .i64 (ti (9223372036854775807#64))]) (by simp [results, Try.results61, go_sem, r0, r1]) rfl ⟨(by first | (rw [HF]; done) | (rw [HF]; rfl)), HS.out.below⟩
def ref_sless (x0 : BitVec 64) (x1 : BitVec 64) : Bool :=
  bif geI x1 0#64 then (geI x0 (9223372036854775808#64 + x1)) else (leI x0 (9223372036854775807#64 + x1))
set_option maxRecDepth 100000 in
set_option maxHeartbeats 1000000 in
theorem ref_sless_any (x0 : BitVec 64) (x1 : BitVec 64)  (w : World) :
    Calls Try.prog 109 #[.int .i64 (ti (x0)), .int .i64 (ti (x1))] w fun e w' => e = .returned (.bool (ref_sless x0 x1)) ∧ Below w.heap.size w w' := by
  go_enter Try.func109, Try.ntmps109
  have HS := hid (st_nil w)
  -- region 1
  go_upto_region 1 with fail
  refine lin_begin (St w []) rfl HS.out ?_
  refine lin_val (i := 0) (v := .int .i64 (ti (x1))) rfl rfl (by rfl) (by intro x hx; go_simp; (first | done | exact rfl)) ?_
  simp only [List.set_cons_succ, List.set_cons_zero]
  refine lin_val (i := 1) (v := .bool (geI x1 0#64)) rfl rfl (by rfl) (by intro x hx; go_simp; (first | done | exact geIT x1 0#64 | exact congrArg _ (geIT x1 0#64) | (rw [geIT x1 0#64]; done) | (rw [geIT x1 0#64]; rfl))) ?_
  simp only [List.set_cons_succ, List.set_cons_zero]
  refine lin_done ?_
  intro W1 hx
  replace HS := hid hx
  clear hx
  cases h1 : (geI x1 0#64)
  · replace h1 := hid h1
    -- region 3
    go_upto_region 3 with fail
    refine lin_begin (St w []) rfl HS.out ?_
    refine lin_val (i := 0) (v := .int .i64 (ti (x0))) rfl rfl (by rfl) (by intro x hx; go_simp; (first | done | exact rfl)) ?_
    simp only [List.set_cons_succ, List.set_cons_zero]
    refine lin_val (i := 1) (v := .int .i64 (ti (x1))) rfl rfl (by rfl) (by intro x hx; go_simp; (first | done | exact rfl)) ?_
    simp only [List.set_cons_succ, List.set_cons_zero]
    refine lin_val (i := 2) (v := .int .i64 (ti (9223372036854775807#64 + x1))) rfl rfl (by rfl) (by intro x hx; exact (show _ = Result.ok (Next.value (.int .i64 (IntKind.i64.wrap ((9223372036854775807 : Int) + (ti (x1)))))) x by kernel_rfl).trans (by rw [show (9223372036854775807 : Int) = ti 9223372036854775807#64 from by decide, addIT 9223372036854775807#64 x1])) ?_
    simp only [List.set_cons_succ, List.set_cons_zero]
    refine lin_val (i := 3) (v := .bool (leI x0 (9223372036854775807#64 + x1))) rfl rfl (by rfl) (by intro x hx; go_simp; (first | done | exact leIT x0 (9223372036854775807#64 + x1) | exact congrArg _ (leIT x0 (9223372036854775807#64 + x1)) | (rw [leIT x0 (9223372036854775807#64 + x1)]; done) | (rw [leIT x0 (9223372036854775807#64 + x1)]; rfl))) ?_
    simp only [List.set_cons_succ, List.set_cons_zero]
    refine lin_val (i := 4) (v := .bool (leI x0 (9223372036854775807#64 + x1))) rfl rfl (by rfl) (by intro x hx; go_simp; (first | done | exact rfl)) ?_
    simp only [List.set_cons_succ, List.set_cons_zero]
    refine lin_done ?_
    intro W2 hx
    replace HS := hid hx
    clear hx
    go_wp2
    have HF : ref_sless x0 x1 = leI x0 (9223372036854775807#64 + x1) := by
      unfold ref_sless
      rw [cond_f h1.out]
    exact bodyPost_ret (v := .bool (leI x0 (9223372036854775807#64 + x1))) (by simp [results, Try.results109, go_sem]) rfl ⟨(by first | (rw [HF]; done) | (rw [HF]; rfl)), HS.out.below⟩
  · replace h1 := hid h1
    -- region 2
    go_upto_region 2 with fail
    refine lin_begin (St w []) rfl HS.out ?_
    refine lin_val (i := 0) (v := .int .i64 (ti (x0))) rfl rfl (by rfl) (by intro x hx; go_simp; (first | done | exact rfl)) ?_
    simp only [List.set_cons_succ, List.set_cons_zero]
    refine lin_val (i := 1) (v := .int .i64 (ti (x1))) rfl rfl (by rfl) (by intro x hx; go_simp; (first | done | exact rfl)) ?_
    simp only [List.set_cons_succ, List.set_cons_zero]
    refine lin_val (i := 2) (v := .int .i64 (ti (9223372036854775808#64 + x1))) rfl rfl (by rfl) (by intro x hx; exact (show _ = Result.ok (Next.value (.int .i64 (IntKind.i64.wrap (((-9223372036854775808) : Int) + (ti (x1)))))) x by kernel_rfl).trans (by rw [show ((-9223372036854775808) : Int) = ti 9223372036854775808#64 from by decide, addIT 9223372036854775808#64 x1])) ?_
    simp only [List.set_cons_succ, List.set_cons_zero]
    refine lin_val (i := 3) (v := .bool (geI x0 (9223372036854775808#64 + x1))) rfl rfl (by rfl) (by intro x hx; go_simp; (first | done | exact geIT x0 (9223372036854775808#64 + x1) | exact congrArg _ (geIT x0 (9223372036854775808#64 + x1)) | (rw [geIT x0 (9223372036854775808#64 + x1)]; done) | (rw [geIT x0 (9223372036854775808#64 + x1)]; rfl))) ?_
    simp only [List.set_cons_succ, List.set_cons_zero]
    refine lin_val (i := 4) (v := .bool (geI x0 (9223372036854775808#64 + x1))) rfl rfl (by rfl) (by intro x hx; go_simp; (first | done | exact rfl)) ?_
    simp only [List.set_cons_succ, List.set_cons_zero]
    refine lin_done ?_
    intro W2 hx
    replace HS := hid hx
    clear hx
    go_wp2
    have HF : ref_sless x0 x1 = geI x0 (9223372036854775808#64 + x1) := by
      unfold ref_sless
      rw [cond_t h1.out]
    exact bodyPost_ret (v := .bool (geI x0 (9223372036854775808#64 + x1))) (by simp [results, Try.results109, go_sem]) rfl ⟨(by first | (rw [HF]; done) | (rw [HF]; rfl)), HS.out.below⟩
def ref_Ssub (x0 : P) (x1 : P) : P :=
  bif (!(ref_sless x0.lo x1.hi)) then (P.mk 9223372036854775808#64 9223372036854775807#64) else (bif (!(ref_sless x0.hi x1.lo)) then (P.mk 9223372036854775808#64 9223372036854775807#64) else (P.mk (x0.lo - x1.hi) (x0.hi - x1.lo)))
set_option maxRecDepth 100000 in
set_option maxHeartbeats 1000000 in
theorem ref_Ssub_any (x0 : P) (x1 : P)  (w : World) :
    Calls Try.prog 63 #[.agg #[.int .i64 (ti (x0.lo)), .int .i64 (ti (x0.hi))], .agg #[.int .i64 (ti (x1.lo)), .int .i64 (ti (x1.hi))]] w fun e w' => e = .returned (.agg #[.int .i64 (ti ((ref_Ssub x0 x1).lo)), .int .i64 (ti ((ref_Ssub x0 x1).hi))]) ∧ Below w.heap.size w w' := by
  go_enter Try.func63, Try.ntmps63
  have HS := hid ((((st_nil w).alloc (k := w.heap.size) rfl [.int .i64 (ti (x0.lo)), .int .i64 (ti (x0.hi))] 38).alloc (k := w.heap.size + 1) (by simp) [.int .i64 (ti (x1.lo)), .int .i64 (ti (x1.hi))] 38).alloc (k := w.heap.size + 2) (by simp) [.int .i64 0, .int .i64 0] 38)
  -- region 1
  go_upto_region 1 with fail
  refine lin_begin (St w [⟨w.heap.size, [some (.int .i64 (ti (x0.lo))), some (.int .i64 (ti (x0.hi)))], 38⟩, ⟨w.heap.size + 1, [some (.int .i64 (ti (x1.lo))), some (.int .i64 (ti (x1.hi)))], 38⟩, ⟨w.heap.size + 2, [some (.int .i64 0), some (.int .i64 0)], 38⟩]) rfl HS.out ?_
  refine lin_val (i := 0) (v := .pointer (some ⟨w.heap.size, 0, none⟩)) rfl rfl (by rfl) (by intro x hx; go_simp; (first | done | exact rfl)) ?_
  simp only [List.set_cons_succ, List.set_cons_zero]
  refine lin_val (i := 1) (v := .int .i64 (ti (x0.lo))) rfl rfl (by rfl) (by intro x hx; have f0 := hx.load 0 0 rfl rfl; go_simp; (first | done | exact rfl)) ?_
  simp only [List.set_cons_succ, List.set_cons_zero]
  refine lin_val (i := 2) (v := .pointer (some ⟨w.heap.size + 1, 1, none⟩)) rfl rfl (by rfl) (by intro x hx; go_simp; (first | done | exact rfl)) ?_
  simp only [List.set_cons_succ, List.set_cons_zero]
  refine lin_val (i := 3) (v := .int .i64 (ti (x1.hi))) rfl rfl (by rfl) (by intro x hx; have f0 := hx.load 1 1 rfl rfl; go_simp; (first | done | exact rfl)) ?_
  simp only [List.set_cons_succ, List.set_cons_zero]
  refine lin_call (i := 4) (f := 109) (args := #[.int .i64 (ti (x0.lo)), .int .i64 (ti (x1.hi))]) (v := .bool (ref_sless x0.lo x1.hi)) (st_ups _ _) rfl rfl (by rfl) (fun x hx => by kernel_rfl) (by intro x hx; exact ref_sless_any x0.lo x1.hi _) ?_
  simp only [List.set_cons_succ, List.set_cons_zero]
  refine lin_val (i := 5) (v := .bool ((!(ref_sless x0.lo x1.hi)))) rfl rfl (by rfl) (by intro x hx; go_simp; (first | done | exact rfl)) ?_
  simp only [List.set_cons_succ, List.set_cons_zero]
  refine lin_val (i := 6) (v := .bool ((!(ref_sless x0.lo x1.hi)))) rfl rfl (by rfl) (by intro x hx; go_simp; (first | done | exact rfl)) ?_
  simp only [List.set_cons_succ, List.set_cons_zero]
  cases h1 : ((!(ref_sless x0.lo x1.hi)))
  · replace h1 := hid h1
    refine lin_val (i := 7) (v := .pointer (some ⟨w.heap.size, 1, none⟩)) rfl rfl (by rfl) (by intro x hx; go_simp; (first | done | exact rfl)) ?_
    simp only [List.set_cons_succ, List.set_cons_zero]
    refine lin_val (i := 8) (v := .int .i64 (ti (x0.hi))) rfl rfl (by rfl) (by intro x hx; have f0 := hx.load 0 1 rfl rfl; go_simp; (first | done | exact rfl)) ?_
    simp only [List.set_cons_succ, List.set_cons_zero]
    refine lin_val (i := 9) (v := .pointer (some ⟨w.heap.size + 1, 0, none⟩)) rfl rfl (by rfl) (by intro x hx; go_simp; (first | done | exact rfl)) ?_
    simp only [List.set_cons_succ, List.set_cons_zero]
    refine lin_val (i := 10) (v := .int .i64 (ti (x1.lo))) rfl rfl (by rfl) (by intro x hx; have f0 := hx.load 1 0 rfl rfl; go_simp; (first | done | exact rfl)) ?_
    simp only [List.set_cons_succ, List.set_cons_zero]
    refine lin_call (i := 11) (f := 109) (args := #[.int .i64 (ti (x0.hi)), .int .i64 (ti (x1.lo))]) (v := .bool (ref_sless x0.hi x1.lo)) (st_ups _ _) rfl rfl (by rfl) (fun x hx => by kernel_rfl) (by intro x hx; exact ref_sless_any x0.hi x1.lo _) ?_
    simp only [List.set_cons_succ, List.set_cons_zero]
    refine lin_val (i := 12) (v := .bool ((!(ref_sless x0.hi x1.lo)))) rfl rfl (by rfl) (by intro x hx; go_simp; (first | done | exact rfl)) ?_
    simp only [List.set_cons_succ, List.set_cons_zero]
    refine lin_val (i := 13) (v := .bool ((!(ref_sless x0.hi x1.lo)))) rfl rfl (by rfl) (by intro x hx; go_simp; (first | done | exact rfl)) ?_
    simp only [List.set_cons_succ, List.set_cons_zero]
    refine lin_done ?_
    intro W1 hx
    replace HS := hid hx
    clear hx
    cases h2 : ((!(ref_sless x0.hi x1.lo)))
    · replace h2 := hid h2
      -- region 3
      go_upto_region 3 with fail
      refine lin_begin (St w [⟨w.heap.size, [some (.int .i64 (ti (x0.lo))), some (.int .i64 (ti (x0.hi)))], 38⟩, ⟨w.heap.size + 1, [some (.int .i64 (ti (x1.lo))), some (.int .i64 (ti (x1.hi)))], 38⟩, ⟨w.heap.size + 2, [some (.int .i64 0), some (.int .i64 0)], 38⟩]) rfl HS.out ?_
      refine lin_val (i := 0) (v := .pointer (some ⟨w.heap.size, 0, none⟩)) rfl rfl (by rfl) (by intro x hx; go_simp; (first | done | exact rfl)) ?_
      simp only [List.set_cons_succ, List.set_cons_zero]
      refine lin_val (i := 1) (v := .int .i64 (ti (x0.lo))) rfl rfl (by rfl) (by intro x hx; have f0 := hx.load 0 0 rfl rfl; go_simp; (first | done | exact rfl)) ?_
      simp only [List.set_cons_succ, List.set_cons_zero]
      refine lin_val (i := 2) (v := .pointer (some ⟨w.heap.size + 1, 1, none⟩)) rfl rfl (by rfl) (by intro x hx; go_simp; (first | done | exact rfl)) ?_
      simp only [List.set_cons_succ, List.set_cons_zero]
      refine lin_val (i := 3) (v := .int .i64 (ti (x1.hi))) rfl rfl (by rfl) (by intro x hx; have f0 := hx.load 1 1 rfl rfl; go_simp; (first | done | exact rfl)) ?_
      simp only [List.set_cons_succ, List.set_cons_zero]
      refine lin_val (i := 4) (v := .int .i64 (ti (x0.lo - x1.hi))) rfl rfl (by rfl) (by intro x hx; go_simp; (first | done | exact subIT x0.lo x1.hi | exact congrArg _ (subIT x0.lo x1.hi) | (rw [subIT x0.lo x1.hi]; done) | (rw [subIT x0.lo x1.hi]; rfl))) ?_
      simp only [List.set_cons_succ, List.set_cons_zero]
      refine lin_val (i := 5) (v := .pointer (some ⟨w.heap.size, 1, none⟩)) rfl rfl (by rfl) (by intro x hx; go_simp; (first | done | exact rfl)) ?_
      simp only [List.set_cons_succ, List.set_cons_zero]
      refine lin_val (i := 6) (v := .int .i64 (ti (x0.hi))) rfl rfl (by rfl) (by intro x hx; have f0 := hx.load 0 1 rfl rfl; go_simp; (first | done | exact rfl)) ?_
      simp only [List.set_cons_succ, List.set_cons_zero]
      refine lin_val (i := 7) (v := .pointer (some ⟨w.heap.size + 1, 0, none⟩)) rfl rfl (by rfl) (by intro x hx; go_simp; (first | done | exact rfl)) ?_
      simp only [List.set_cons_succ, List.set_cons_zero]
      refine lin_val (i := 8) (v := .int .i64 (ti (x1.lo))) rfl rfl (by rfl) (by intro x hx; have f0 := hx.load 1 0 rfl rfl; go_simp; (first | done | exact rfl)) ?_
      simp only [List.set_cons_succ, List.set_cons_zero]
      refine lin_val (i := 9) (v := .int .i64 (ti (x0.hi - x1.lo))) rfl rfl (by rfl) (by intro x hx; go_simp; (first | done | exact subIT x0.hi x1.lo | exact congrArg _ (subIT x0.hi x1.lo) | (rw [subIT x0.hi x1.lo]; done) | (rw [subIT x0.hi x1.lo]; rfl))) ?_
      simp only [List.set_cons_succ, List.set_cons_zero]
      refine lin_val (i := 10) (v := .agg #[.int .i64 (ti (x0.lo - x1.hi)), .int .i64 (ti (x0.hi - x1.lo))]) rfl rfl (by rfl) (by intro x hx; go_simp; (first | done | exact rfl)) ?_
      simp only [List.set_cons_succ, List.set_cons_zero]
      refine lin_store (i := 11) (St w [⟨w.heap.size, [some (.int .i64 (ti (x0.lo))), some (.int .i64 (ti (x0.hi)))], 38⟩, ⟨w.heap.size + 1, [some (.int .i64 (ti (x1.lo))), some (.int .i64 (ti (x1.hi)))], 38⟩, ⟨w.heap.size + 2, [some (.int .i64 (ti (x0.lo - x1.hi))), some (.int .i64 (ti (x0.hi - x1.lo)))], 38⟩]) rfl rfl (by rfl) (fun x => ((x.setCell ⟨w.heap.size + 2, 0, none⟩ (.int .i64 (ti (x0.lo - x1.hi)))).setCell ⟨w.heap.size + 2, 1, none⟩ (.int .i64 (ti (x0.hi - x1.lo))))) (by intro x hx; obtain ⟨u0, z0⟩ := hx.has 2 0 rfl (by simp); have q0 := hx.soft 2 0 rfl; obtain ⟨u1, z1⟩ := hx.has 2 1 rfl (by simp); have q1 := hx.soft 2 1 rfl; go_simp; (first | done | rfl)) (fun x hx => ((hx.put 2 0 (.int .i64 (ti (x0.lo - x1.hi))) rfl).put 2 1 (.int .i64 (ti (x0.hi - x1.lo))) rfl)) ?_
      refine lin_done ?_
      intro W2 hx
      replace HS := hid hx
      clear hx
      go_wp2
      have r0 := HS.out.load 2 0 rfl rfl
      have r1 := HS.out.load 2 1 rfl rfl
      have HF : ref_Ssub x0 x1 = P.mk (x0.lo - x1.hi) (x0.hi - x1.lo) := by
        unfold ref_Ssub
        rw [cond_f h1.out, cond_f h2.out]
      exact bodyPost_ret (v := .agg #[.int .i64 (ti (x0.lo - x1.hi)), .int .i64 (ti (x0.hi - x1.lo))]) (by simp [results, Try.results63, go_sem, r0, r1]) rfl ⟨(by first | (rw [HF]; done) | (rw [HF]; rfl)), HS.out.below⟩
    · replace h2 := hid h2
      -- region 2
      go_upto_region 2 with fail
      refine lin_begin (St w [⟨w.heap.size, [some (.int .i64 (ti (x0.lo))), some (.int .i64 (ti (x0.hi)))], 38⟩, ⟨w.heap.size + 1, [some (.int .i64 (ti (x1.lo))), some (.int .i64 (ti (x1.hi)))], 38⟩, ⟨w.heap.size + 2, [some (.int .i64 0), some (.int .i64 0)], 38⟩]) rfl HS.out ?_
      refine lin_call (i := 0) (f := 53) (args := #[]) (v := .agg #[.int .i64 (ti (9223372036854775808#64)), .int .i64 (ti (9223372036854775807#64))]) (st_ups _ _) rfl rfl (by rfl) (fun x hx => by kernel_rfl) (by intro x hx; exact ref_Sall_any _) ?_
      simp only [List.set_cons_succ, List.set_cons_zero]
      refine lin_store (i := 1) (St w [⟨w.heap.size, [some (.int .i64 (ti (x0.lo))), some (.int .i64 (ti (x0.hi)))], 38⟩, ⟨w.heap.size + 1, [some (.int .i64 (ti (x1.lo))), some (.int .i64 (ti (x1.hi)))], 38⟩, ⟨w.heap.size + 2, [some (.int .i64 (ti (9223372036854775808#64))), some (.int .i64 (ti (9223372036854775807#64)))], 38⟩]) rfl rfl (by rfl) (fun x => ((x.setCell ⟨w.heap.size + 2, 0, none⟩ (.int .i64 (ti (9223372036854775808#64)))).setCell ⟨w.heap.size + 2, 1, none⟩ (.int .i64 (ti (9223372036854775807#64))))) (by intro x hx; obtain ⟨u0, z0⟩ := hx.has 2 0 rfl (by simp); have q0 := hx.soft 2 0 rfl; obtain ⟨u1, z1⟩ := hx.has 2 1 rfl (by simp); have q1 := hx.soft 2 1 rfl; go_simp; (first | done | rfl)) (fun x hx => ((hx.put 2 0 (.int .i64 (ti (9223372036854775808#64))) rfl).put 2 1 (.int .i64 (ti (9223372036854775807#64))) rfl)) ?_
      refine lin_done ?_
      intro W2 hx
      replace HS := hid hx
      clear hx
      go_wp2
      have r0 := HS.out.load 2 0 rfl rfl
      have r1 := HS.out.load 2 1 rfl rfl
      have HF : ref_Ssub x0 x1 = P.mk 9223372036854775808#64 9223372036854775807#64 := by
        unfold ref_Ssub
        rw [cond_f h1.out, cond_t h2.out]
      exact bodyPost_ret (v := .agg #[.int .i64 (ti (9223372036854775808#64)), .int .i64 (ti (9223372036854775807#64))]) (by simp [results, Try.results63, go_sem, r0, r1]) rfl ⟨(by first | (rw [HF]; done) | (rw [HF]; rfl)), HS.out.below⟩
  · replace h1 := hid h1
    refine lin_no (i := 7) rfl rfl (by kernel_rfl) ?_
    simp only [List.set_cons_succ, List.set_cons_zero]
    refine lin_no (i := 8) rfl rfl (by kernel_rfl) ?_
    simp only [List.set_cons_succ, List.set_cons_zero]
    refine lin_no (i := 9) rfl rfl (by kernel_rfl) ?_
    simp only [List.set_cons_succ, List.set_cons_zero]
    refine lin_no (i := 10) rfl rfl (by kernel_rfl) ?_
    simp only [List.set_cons_succ, List.set_cons_zero]
    refine lin_no (i := 11) rfl rfl (by kernel_rfl) ?_
    simp only [List.set_cons_succ, List.set_cons_zero]
    refine lin_no (i := 12) rfl rfl (by kernel_rfl) ?_
    simp only [List.set_cons_succ, List.set_cons_zero]
    refine lin_val (i := 13) (v := .bool true) rfl rfl (by rfl) (by intro x hx; go_simp; (first | done | exact rfl)) ?_
    simp only [List.set_cons_succ, List.set_cons_zero]
    refine lin_done ?_
    intro W1 hx
    replace HS := hid hx
    clear hx
    -- region 2
    go_upto_region 2 with fail
    refine lin_begin (St w [⟨w.heap.size, [some (.int .i64 (ti (x0.lo))), some (.int .i64 (ti (x0.hi)))], 38⟩, ⟨w.heap.size + 1, [some (.int .i64 (ti (x1.lo))), some (.int .i64 (ti (x1.hi)))], 38⟩, ⟨w.heap.size + 2, [some (.int .i64 0), some (.int .i64 0)], 38⟩]) rfl HS.out ?_
    refine lin_call (i := 0) (f := 53) (args := #[]) (v := .agg #[.int .i64 (ti (9223372036854775808#64)), .int .i64 (ti (9223372036854775807#64))]) (st_ups _ _) rfl rfl (by rfl) (fun x hx => by kernel_rfl) (by intro x hx; exact ref_Sall_any _) ?_
    simp only [List.set_cons_succ, List.set_cons_zero]
    refine lin_store (i := 1) (St w [⟨w.heap.size, [some (.int .i64 (ti (x0.lo))), some (.int .i64 (ti (x0.hi)))], 38⟩, ⟨w.heap.size + 1, [some (.int .i64 (ti (x1.lo))), some (.int .i64 (ti (x1.hi)))], 38⟩, ⟨w.heap.size + 2, [some (.int .i64 (ti (9223372036854775808#64))), some (.int .i64 (ti (9223372036854775807#64)))], 38⟩]) rfl rfl (by rfl) (fun x => ((x.setCell ⟨w.heap.size + 2, 0, none⟩ (.int .i64 (ti (9223372036854775808#64)))).setCell ⟨w.heap.size + 2, 1, none⟩ (.int .i64 (ti (9223372036854775807#64))))) (by intro x hx; obtain ⟨u0, z0⟩ := hx.has 2 0 rfl (by simp); have q0 := hx.soft 2 0 rfl; obtain ⟨u1, z1⟩ := hx.has 2 1 rfl (by simp); have q1 := hx.soft 2 1 rfl; go_simp; (first | done | rfl)) (fun x hx => ((hx.put 2 0 (.int .i64 (ti (9223372036854775808#64))) rfl).put 2 1 (.int .i64 (ti (9223372036854775807#64))) rfl)) ?_
    refine lin_done ?_
    intro W2 hx
    replace HS := hid hx
    clear hx
    go_wp2
    have r0 := HS.out.load 2 0 rfl rfl
    have r1 := HS.out.load 2 1 rfl rfl
    have HF : ref_Ssub x0 x1 = P.mk 9223372036854775808#64 9223372036854775807#64 := by
      unfold ref_Ssub
      rw [cond_t h1.out]
    exact bodyPost_ret (v := .agg #[.int .i64 (ti (9223372036854775808#64)), .int .i64 (ti (9223372036854775807#64))]) (by simp [results, Try.results63, go_sem, r0, r1]) rfl ⟨(by first | (rw [HF]; done) | (rw [HF]; rfl)), HS.out.below⟩
def ref_Scut (x0 : P) : P :=
  bif ref_Swithin x0 (P.mk 18446744071562067968#64 2147483647#64) then (x0) else (P.mk 18446744071562067968#64 2147483647#64)
set_option maxRecDepth 100000 in
set_option maxHeartbeats 1000000 in
theorem ref_Scut_any (x0 : P)  (w : World) :
    Calls Try.prog 67 #[.agg #[.int .i64 (ti (x0.lo)), .int .i64 (ti (x0.hi))]] w fun e w' => e = .returned (.agg #[.int .i64 (ti ((ref_Scut x0).lo)), .int .i64 (ti ((ref_Scut x0).hi))]) ∧ Below w.heap.size w w' := by
  go_enter Try.func67, Try.ntmps67
  have HS := hid (((st_nil w).alloc (k := w.heap.size) rfl [.int .i64 (ti (x0.lo)), .int .i64 (ti (x0.hi))] 38).alloc (k := w.heap.size + 1) (by simp) [.int .i64 0, .int .i64 0] 38)
  -- region 1
  go_upto_region 1 with fail
  refine lin_begin (St w [⟨w.heap.size, [some (.int .i64 (ti (x0.lo))), some (.int .i64 (ti (x0.hi)))], 38⟩, ⟨w.heap.size + 1, [some (.int .i64 0), some (.int .i64 0)], 38⟩]) rfl HS.out ?_
  refine lin_val (i := 0) (v := .agg #[.int .i64 (-2147483648), .int .i64 2147483647]) rfl rfl (by rfl) (by intro x hx; go_simp; (first | done | exact rfl)) ?_
  simp only [List.set_cons_succ, List.set_cons_zero]
  refine lin_new (i := 1) rfl rfl (by rfl) [.int .i64 0, .int .i64 0] 38 (fun k => .pointer (some ⟨k, 0, none⟩)) [some (.int .i64 0), some (.int .i64 0)] (lessC_eq (lessC_eq (trivial))) (by intro x hx; go_simp; (first | done | exact rfl)) (fun k1 => ?_)
  simp only [List.set_cons_succ, List.set_cons_zero]
  refine lin_store (i := 2) (St w [⟨w.heap.size, [some (.int .i64 (ti (x0.lo))), some (.int .i64 (ti (x0.hi)))], 38⟩, ⟨w.heap.size + 1, [some (.int .i64 0), some (.int .i64 0)], 38⟩, ⟨k1, [some (.int .i64 (-2147483648)), some (.int .i64 2147483647)], 38⟩]) rfl rfl (by rfl) (fun x => ((x.setCell ⟨k1, 0, none⟩ (.int .i64 (-2147483648))).setCell ⟨k1, 1, none⟩ (.int .i64 2147483647))) (by intro x hx; obtain ⟨u0, z0⟩ := hx.has 2 0 rfl (by simp); have q0 := hx.soft 2 0 rfl; obtain ⟨u1, z1⟩ := hx.has 2 1 rfl (by simp); have q1 := hx.soft 2 1 rfl; go_simp; (first | done | rfl)) (fun x hx => ((hx.put 2 0 (.int .i64 (-2147483648)) rfl).put 2 1 (.int .i64 2147483647) rfl)) ?_
  refine lin_done ?_
  intro W1 hx
  replace HS := hid hx
  clear hx
  -- region 2
  go_upto_region 2 with fail
  refine lin_begin (St w [⟨w.heap.size, [some (.int .i64 (ti (x0.lo))), some (.int .i64 (ti (x0.hi)))], 38⟩, ⟨w.heap.size + 1, [some (.int .i64 0), some (.int .i64 0)], 38⟩, ⟨k1, [some (.int .i64 (-2147483648)), some (.int .i64 2147483647)], 38⟩]) rfl HS.out ?_
  refine lin_val (i := 0) (v := .agg #[.int .i64 (ti (x0.lo)), .int .i64 (ti (x0.hi))]) rfl rfl (by rfl) (by intro x hx; have f0 := hx.load 0 0 rfl rfl; have f1 := hx.load 0 1 rfl rfl; go_simp; (first | done | exact rfl)) ?_
  simp only [List.set_cons_succ, List.set_cons_zero]
  refine lin_val (i := 1) (v := .agg #[.int .i64 (-2147483648), .int .i64 2147483647]) rfl rfl (by rfl) (by intro x hx; have f0 := hx.load 2 0 rfl rfl; have f1 := hx.load 2 1 rfl rfl; go_simp; (first | done | exact rfl)) ?_
  simp only [List.set_cons_succ, List.set_cons_zero]
  refine lin_call (i := 2) (f := 57) (args := #[.agg #[.int .i64 (ti (x0.lo)), .int .i64 (ti (x0.hi))], .agg #[.int .i64 (ti (18446744071562067968#64)), .int .i64 (ti (2147483647#64))]]) (v := .bool (ref_Swithin x0 (P.mk 18446744071562067968#64 2147483647#64))) (st_ups _ _) rfl rfl (by rfl) (fun x hx => by kernel_rfl) (by intro x hx; exact ref_Swithin_any x0 (P.mk 18446744071562067968#64 2147483647#64) _) ?_
  simp only [List.set_cons_succ, List.set_cons_zero]
  refine lin_done ?_
  intro W2 hx
  replace HS := hid hx
  clear hx
  cases h1 : (ref_Swithin x0 (P.mk 18446744071562067968#64 2147483647#64))
  · replace h1 := hid h1
    -- region 4
    go_upto_region 4 with fail
    refine lin_begin (St w [⟨w.heap.size, [some (.int .i64 (ti (x0.lo))), some (.int .i64 (ti (x0.hi)))], 38⟩, ⟨w.heap.size + 1, [some (.int .i64 0), some (.int .i64 0)], 38⟩, ⟨k1, [some (.int .i64 (-2147483648)), some (.int .i64 2147483647)], 38⟩]) rfl HS.out ?_
    refine lin_val (i := 0) (v := .agg #[.int .i64 (-2147483648), .int .i64 2147483647]) rfl rfl (by rfl) (by intro x hx; have f0 := hx.load 2 0 rfl rfl; have f1 := hx.load 2 1 rfl rfl; go_simp; (first | done | exact rfl)) ?_
    simp only [List.set_cons_succ, List.set_cons_zero]
    refine lin_store (i := 1) (St w [⟨w.heap.size, [some (.int .i64 (ti (x0.lo))), some (.int .i64 (ti (x0.hi)))], 38⟩, ⟨w.heap.size + 1, [some (.int .i64 (-2147483648)), some (.int .i64 2147483647)], 38⟩, ⟨k1, [some (.int .i64 (-2147483648)), some (.int .i64 2147483647)], 38⟩]) rfl rfl (by rfl) (fun x => ((x.setCell ⟨w.heap.size + 1, 0, none⟩ (.int .i64 (-2147483648))).setCell ⟨w.heap.size + 1, 1, none⟩ (.int .i64 2147483647))) (by intro x hx; obtain ⟨u0, z0⟩ := hx.has 1 0 rfl (by simp); have q0 := hx.soft 1 0 rfl; obtain ⟨u1, z1⟩ := hx.has 1 1 rfl (by simp); have q1 := hx.soft 1 1 rfl; go_simp; (first | done | rfl)) (fun x hx => ((hx.put 1 0 (.int .i64 (-2147483648)) rfl).put 1 1 (.int .i64 2147483647) rfl)) ?_
    refine lin_done ?_
    intro W3 hx
    replace HS := hid hx
    clear hx
    go_wp2
    have r0 := HS.out.load 1 0 rfl rfl
    have r1 := HS.out.load 1 1 rfl rfl
    have HF : ref_Scut x0 = P.mk 18446744071562067968#64 2147483647#64 := by
      unfold ref_Scut
      rw [cond_f h1.out]
    exact bodyPost_ret (v := .agg #[.int .i64 (-2147483648), .int .i64 2147483647]) (by simp [results, Try.results67, go_sem, r0, r1]) rfl ⟨(by first | (rw [HF]; done) | (rw [HF]; rfl)), HS.out.below⟩
  · replace h1 := hid h1
    -- region 3
    go_upto_region 3 with fail
    refine lin_begin (St w [⟨w.heap.size, [some (.int .i64 (ti (x0.lo))), some (.int .i64 (ti (x0.hi)))], 38⟩, ⟨w.heap.size + 1, [some (.int .i64 0), some (.int .i64 0)], 38⟩, ⟨k1, [some (.int .i64 (-2147483648)), some (.int .i64 2147483647)], 38⟩]) rfl HS.out ?_
    refine lin_val (i := 0) (v := .agg #[.int .i64 (ti (x0.lo)), .int .i64 (ti (x0.hi))]) rfl rfl (by rfl) (by intro x hx; have f0 := hx.load 0 0 rfl rfl; have f1 := hx.load 0 1 rfl rfl; go_simp; (first | done | exact rfl)) ?_
    simp only [List.set_cons_succ, List.set_cons_zero]
    refine lin_store (i := 1) (St w [⟨w.heap.size, [some (.int .i64 (ti (x0.lo))), some (.int .i64 (ti (x0.hi)))], 38⟩, ⟨w.heap.size + 1, [some (.int .i64 (ti (x0.lo))), some (.int .i64 (ti (x0.hi)))], 38⟩, ⟨k1, [some (.int .i64 (-2147483648)), some (.int .i64 2147483647)], 38⟩]) rfl rfl (by rfl) (fun x => ((x.setCell ⟨w.heap.size + 1, 0, none⟩ (.int .i64 (ti (x0.lo)))).setCell ⟨w.heap.size + 1, 1, none⟩ (.int .i64 (ti (x0.hi))))) (by intro x hx; obtain ⟨u0, z0⟩ := hx.has 1 0 rfl (by simp); have q0 := hx.soft 1 0 rfl; obtain ⟨u1, z1⟩ := hx.has 1 1 rfl (by simp); have q1 := hx.soft 1 1 rfl; go_simp; (first | done | rfl)) (fun x hx => ((hx.put 1 0 (.int .i64 (ti (x0.lo))) rfl).put 1 1 (.int .i64 (ti (x0.hi))) rfl)) ?_
    refine lin_done ?_
    intro W3 hx
    replace HS := hid hx
    clear hx
    go_wp2
    have r0 := HS.out.load 1 0 rfl rfl
    have r1 := HS.out.load 1 1 rfl rfl
    have HF : ref_Scut x0 = x0 := by
      unfold ref_Scut
      rw [cond_t h1.out]
    exact bodyPost_ret (v := .agg #[.int .i64 (ti (x0.lo)), .int .i64 (ti (x0.hi))]) (by simp [results, Try.results67, go_sem, r0, r1]) rfl ⟨(by first | (rw [HF]; done) | (rw [HF]; rfl)), HS.out.below⟩
def ref_ToSigned (x0 : P) : P :=
  bif ((geU x0.lo 9223372036854775808#64) != (geU x0.hi 9223372036854775808#64)) then (P.mk 9223372036854775808#64 9223372036854775807#64) else (x0)
set_option maxRecDepth 100000 in
set_option maxHeartbeats 1000000 in
theorem ref_ToSigned_any (x0 : P)  (w : World) :
    Calls Try.prog 69 #[.agg #[.int .u64 (tn (x0.lo)), .int .u64 (tn (x0.hi))]] w fun e w' => e = .returned (.agg #[.int .i64 (ti ((ref_ToSigned x0).lo)), .int .i64 (ti ((ref_ToSigned x0).hi))]) ∧ Below w.heap.size w w' := by
  go_enter Try.func69, Try.ntmps69
  have HS := hid (((st_nil w).alloc (k := w.heap.size) rfl [.int .u64 (tn (x0.lo)), .int .u64 (tn (x0.hi))] 24).alloc (k := w.heap.size + 1) (by simp) [.int .i64 0, .int .i64 0] 38)
  -- region 1
  go_upto_region 1 with fail
  refine lin_begin (St w [⟨w.heap.size, [some (.int .u64 (tn (x0.lo))), some (.int .u64 (tn (x0.hi)))], 24⟩, ⟨w.heap.size + 1, [some (.int .i64 0), some (.int .i64 0)], 38⟩]) rfl HS.out ?_
  refine lin_val (i := 0) (v := .pointer (some ⟨w.heap.size, 0, none⟩)) rfl rfl (by rfl) (by intro x hx; go_simp; (first | done | exact rfl)) ?_
  simp only [List.set_cons_succ, List.set_cons_zero]
  refine lin_val (i := 1) (v := .int .u64 (tn (x0.lo))) rfl rfl (by rfl) (by intro x hx; have f0 := hx.load 0 0 rfl rfl; go_simp; (first | done | exact rfl)) ?_
  simp only [List.set_cons_succ, List.set_cons_zero]
  refine lin_val (i := 2) (v := .bool (geU x0.lo 9223372036854775808#64)) rfl rfl (by rfl) (by intro x hx; go_simp; (first | done | exact geUT x0.lo 9223372036854775808#64 | exact congrArg _ (geUT x0.lo 9223372036854775808#64) | (rw [geUT x0.lo 9223372036854775808#64]; done) | (rw [geUT x0.lo 9223372036854775808#64]; rfl))) ?_
  simp only [List.set_cons_succ, List.set_cons_zero]
  refine lin_val (i := 3) (v := .pointer (some ⟨w.heap.size, 1, none⟩)) rfl rfl (by rfl) (by intro x hx; go_simp; (first | done | exact rfl)) ?_
  simp only [List.set_cons_succ, List.set_cons_zero]
  refine lin_val (i := 4) (v := .int .u64 (tn (x0.hi))) rfl rfl (by rfl) (by intro x hx; have f0 := hx.load 0 1 rfl rfl; go_simp; (first | done | exact rfl)) ?_
  simp only [List.set_cons_succ, List.set_cons_zero]
  refine lin_val (i := 5) (v := .bool (geU x0.hi 9223372036854775808#64)) rfl rfl (by rfl) (by intro x hx; go_simp; (first | done | exact geUT x0.hi 9223372036854775808#64 | exact congrArg _ (geUT x0.hi 9223372036854775808#64) | (rw [geUT x0.hi 9223372036854775808#64]; done) | (rw [geUT x0.hi 9223372036854775808#64]; rfl))) ?_
  simp only [List.set_cons_succ, List.set_cons_zero]
  refine lin_val (i := 6) (v := .bool (((geU x0.lo 9223372036854775808#64) != (geU x0.hi 9223372036854775808#64)))) rfl rfl (by rfl) (by intro x hx; go_simp; (first | done | exact neB (geU x0.lo 9223372036854775808#64) (geU x0.hi 9223372036854775808#64) | exact congrArg _ (neB (geU x0.lo 9223372036854775808#64) (geU x0.hi 9223372036854775808#64)) | (rw [neB (geU x0.lo 9223372036854775808#64) (geU x0.hi 9223372036854775808#64)]; done) | (rw [neB (geU x0.lo 9223372036854775808#64) (geU x0.hi 9223372036854775808#64)]; rfl))) ?_
  simp only [List.set_cons_succ, List.set_cons_zero]
  refine lin_done ?_
  intro W1 hx
  replace HS := hid hx
  clear hx
  cases h1 : (((geU x0.lo 9223372036854775808#64) != (geU x0.hi 9223372036854775808#64)))
  · replace h1 := hid h1
    -- region 3
    go_upto_region 3 with fail
    refine lin_begin (St w [⟨w.heap.size, [some (.int .u64 (tn (x0.lo))), some (.int .u64 (tn (x0.hi)))], 24⟩, ⟨w.heap.size + 1, [some (.int .i64 0), some (.int .i64 0)], 38⟩]) rfl HS.out ?_
    refine lin_val (i := 0) (v := .pointer (some ⟨w.heap.size, 0, none⟩)) rfl rfl (by rfl) (by intro x hx; go_simp; (first | done | exact rfl)) ?_
    simp only [List.set_cons_succ, List.set_cons_zero]
    refine lin_val (i := 1) (v := .int .u64 (tn (x0.lo))) rfl rfl (by rfl) (by intro x hx; have f0 := hx.load 0 0 rfl rfl; go_simp; (first | done | exact rfl)) ?_
    simp only [List.set_cons_succ, List.set_cons_zero]
    refine lin_val (i := 2) (v := .int .i64 (ti (x0.lo))) rfl rfl (by rfl) (by intro x hx; go_simp; (first | done | exact toI64 x0.lo | exact congrArg _ (toI64 x0.lo) | (rw [toI64 x0.lo]; done) | (rw [toI64 x0.lo]; rfl))) ?_
    simp only [List.set_cons_succ, List.set_cons_zero]
    refine lin_val (i := 3) (v := .pointer (some ⟨w.heap.size, 1, none⟩)) rfl rfl (by rfl) (by intro x hx; go_simp; (first | done | exact rfl)) ?_
    simp only [List.set_cons_succ, List.set_cons_zero]
    refine lin_val (i := 4) (v := .int .u64 (tn (x0.hi))) rfl rfl (by rfl) (by intro x hx; have f0 := hx.load 0 1 rfl rfl; go_simp; (first | done | exact rfl)) ?_
    simp only [List.set_cons_succ, List.set_cons_zero]
    refine lin_val (i := 5) (v := .int .i64 (ti (x0.hi))) rfl rfl (by rfl) (by intro x hx; go_simp; (first | done | exact toI64 x0.hi | exact congrArg _ (toI64 x0.hi) | (rw [toI64 x0.hi]; done) | (rw [toI64 x0.hi]; rfl))) ?_
    simp only [List.set_cons_succ, List.set_cons_zero]
    refine lin_val (i := 6) (v := .agg #[.int .i64 (ti (x0.lo)), .int .i64 (ti (x0.hi))]) rfl rfl (by rfl) (by intro x hx; go_simp; (first | done | exact rfl)) ?_
    simp only [List.set_cons_succ, List.set_cons_zero]
    refine lin_store (i := 7) (St w [⟨w.heap.size, [some (.int .u64 (tn (x0.lo))), some (.int .u64 (tn (x0.hi)))], 24⟩, ⟨w.heap.size + 1, [some (.int .i64 (ti (x0.lo))), some (.int .i64 (ti (x0.hi)))], 38⟩]) rfl rfl (by rfl) (fun x => ((x.setCell ⟨w.heap.size + 1, 0, none⟩ (.int .i64 (ti (x0.lo)))).setCell ⟨w.heap.size + 1, 1, none⟩ (.int .i64 (ti (x0.hi))))) (by intro x hx; obtain ⟨u0, z0⟩ := hx.has 1 0 rfl (by simp); have q0 := hx.soft 1 0 rfl; obtain ⟨u1, z1⟩ := hx.has 1 1 rfl (by simp); have q1 := hx.soft 1 1 rfl; go_simp; (first | done | rfl)) (fun x hx => ((hx.put 1 0 (.int .i64 (ti (x0.lo))) rfl).put 1 1 (.int .i64 (ti (x0.hi))) rfl)) ?_
    refine lin_done ?_
    intro W2 hx
    replace HS := hid hx
    clear hx
    go_wp2
    have r0 := HS.out.load 1 0 rfl rfl
    have r1 := HS.out.load 1 1 rfl rfl
    have HF : ref_ToSigned x0 = x0 := by
      unfold ref_ToSigned
      rw [cond_f h1.out]
    exact bodyPost_ret (v := .agg #[.int .i64 (ti (x0.lo)), .int .i64 (ti (x0.hi))]) (by simp [results, Try.results69, go_sem, r0, r1]) rfl ⟨(by first | (rw [HF]; done) | (rw [HF]; rfl)), HS.out.below⟩
  · replace h1 := hid h1
    -- region 2
    go_upto_region 2 with fail
    refine lin_begin (St w [⟨w.heap.size, [some (.int .u64 (tn (x0.lo))), some (.int .u64 (tn (x0.hi)))], 24⟩, ⟨w.heap.size + 1, [some (.int .i64 0), some (.int .i64 0)], 38⟩]) rfl HS.out ?_
    refine lin_call (i := 0) (f := 53) (args := #[]) (v := .agg #[.int .i64 (ti (9223372036854775808#64)), .int .i64 (ti (9223372036854775807#64))]) (st_ups _ _) rfl rfl (by rfl) (fun x hx => by kernel_rfl) (by intro x hx; exact ref_Sall_any _) ?_
    simp only [List.set_cons_succ, List.set_cons_zero]
    refine lin_store (i := 1) (St w [⟨w.heap.size, [some (.int .u64 (tn (x0.lo))), some (.int .u64 (tn (x0.hi)))], 24⟩, ⟨w.heap.size + 1, [some (.int .i64 (ti (9223372036854775808#64))), some (.int .i64 (ti (9223372036854775807#64)))], 38⟩]) rfl rfl (by rfl) (fun x => ((x.setCell ⟨w.heap.size + 1, 0, none⟩ (.int .i64 (ti (9223372036854775808#64)))).setCell ⟨w.heap.size + 1, 1, none⟩ (.int .i64 (ti (9223372036854775807#64))))) (by intro x hx; obtain ⟨u0, z0⟩ := hx.has 1 0 rfl (by simp); have q0 := hx.soft 1 0 rfl; obtain ⟨u1, z1⟩ := hx.has 1 1 rfl (by simp); have q1 := hx.soft 1 1 rfl; go_simp; (first | done | rfl)) (fun x hx => ((hx.put 1 0 (.int .i64 (ti (9223372036854775808#64))) rfl).put 1 1 (.int .i64 (ti (9223372036854775807#64))) rfl)) ?_
    refine lin_done ?_
    intro W2 hx
    replace HS := hid hx
    clear hx
    go_wp2
    have r0 := HS.out.load 1 0 rfl rfl
    have r1 := HS.out.load 1 1 rfl rfl
    have HF : ref_ToSigned x0 = P.mk 9223372036854775808#64 9223372036854775807#64 := by
      unfold ref_ToSigned
      rw [cond_t h1.out]
    exact bodyPost_ret (v := .agg #[.int .i64 (ti (9223372036854775808#64)), .int .i64 (ti (9223372036854775807#64))]) (by simp [results, Try.results69, go_sem, r0, r1]) rfl ⟨(by first | (rw [HF]; done) | (rw [HF]; rfl)), HS.out.below⟩
def ref_ToSpan (x0 : P) : P :=
  bif ((ltI x0.lo 0#64) != (ltI x0.hi 0#64)) then (P.mk 0#64 18446744073709551615#64) else (x0)
set_option maxRecDepth 100000 in
set_option maxHeartbeats 1000000 in
theorem ref_ToSpan_any (x0 : P)  (w : World) :
    Calls Try.prog 73 #[.agg #[.int .i64 (ti (x0.lo)), .int .i64 (ti (x0.hi))]] w fun e w' => e = .returned (.agg #[.int .u64 (tn ((ref_ToSpan x0).lo)), .int .u64 (tn ((ref_ToSpan x0).hi))]) ∧ Below w.heap.size w w' := by
  go_enter Try.func73, Try.ntmps73
  have HS := hid (((st_nil w).alloc (k := w.heap.size) rfl [.int .i64 (ti (x0.lo)), .int .i64 (ti (x0.hi))] 38).alloc (k := w.heap.size + 1) (by simp) [.int .u64 0, .int .u64 0] 24)
  -- region 1
  go_upto_region 1 with fail
  refine lin_begin (St w [⟨w.heap.size, [some (.int .i64 (ti (x0.lo))), some (.int .i64 (ti (x0.hi)))], 38⟩, ⟨w.heap.size + 1, [some (.int .u64 0), some (.int .u64 0)], 24⟩]) rfl HS.out ?_
  refine lin_val (i := 0) (v := .pointer (some ⟨w.heap.size, 0, none⟩)) rfl rfl (by rfl) (by intro x hx; go_simp; (first | done | exact rfl)) ?_
  simp only [List.set_cons_succ, List.set_cons_zero]
  refine lin_val (i := 1) (v := .int .i64 (ti (x0.lo))) rfl rfl (by rfl) (by intro x hx; have f0 := hx.load 0 0 rfl rfl; go_simp; (first | done | exact rfl)) ?_
  simp only [List.set_cons_succ, List.set_cons_zero]
  refine lin_val (i := 2) (v := .bool (ltI x0.lo 0#64)) rfl rfl (by rfl) (by intro x hx; go_simp; (first | done | exact ltIT x0.lo 0#64 | exact congrArg _ (ltIT x0.lo 0#64) | (rw [ltIT x0.lo 0#64]; done) | (rw [ltIT x0.lo 0#64]; rfl))) ?_
  simp only [List.set_cons_succ, List.set_cons_zero]
  refine lin_val (i := 3) (v := .pointer (some ⟨w.heap.size, 1, none⟩)) rfl rfl (by rfl) (by intro x hx; go_simp; (first | done | exact rfl)) ?_
  simp only [List.set_cons_succ, List.set_cons_zero]
  refine lin_val (i := 4) (v := .int .i64 (ti (x0.hi))) rfl rfl (by rfl) (by intro x hx; have f0 := hx.load 0 1 rfl rfl; go_simp; (first | done | exact rfl)) ?_
  simp only [List.set_cons_succ, List.set_cons_zero]
  refine lin_val (i := 5) (v := .bool (ltI x0.hi 0#64)) rfl rfl (by rfl) (by intro x hx; go_simp; (first | done | exact ltIT x0.hi 0#64 | exact congrArg _ (ltIT x0.hi 0#64) | (rw [ltIT x0.hi 0#64]; done) | (rw [ltIT x0.hi 0#64]; rfl))) ?_
  simp only [List.set_cons_succ, List.set_cons_zero]
  refine lin_val (i := 6) (v := .bool (((ltI x0.lo 0#64) != (ltI x0.hi 0#64)))) rfl rfl (by rfl) (by intro x hx; go_simp; (first | done | exact neB (ltI x0.lo 0#64) (ltI x0.hi 0#64) | exact congrArg _ (neB (ltI x0.lo 0#64) (ltI x0.hi 0#64)) | (rw [neB (ltI x0.lo 0#64) (ltI x0.hi 0#64)]; done) | (rw [neB (ltI x0.lo 0#64) (ltI x0.hi 0#64)]; rfl))) ?_
  simp only [List.set_cons_succ, List.set_cons_zero]
  refine lin_done ?_
  intro W1 hx
  replace HS := hid hx
  clear hx
  cases h1 : (((ltI x0.lo 0#64) != (ltI x0.hi 0#64)))
  · replace h1 := hid h1
    -- region 3
    go_upto_region 3 with fail
    refine lin_begin (St w [⟨w.heap.size, [some (.int .i64 (ti (x0.lo))), some (.int .i64 (ti (x0.hi)))], 38⟩, ⟨w.heap.size + 1, [some (.int .u64 0), some (.int .u64 0)], 24⟩]) rfl HS.out ?_
    refine lin_val (i := 0) (v := .pointer (some ⟨w.heap.size, 0, none⟩)) rfl rfl (by rfl) (by intro x hx; go_simp; (first | done | exact rfl)) ?_
    simp only [List.set_cons_succ, List.set_cons_zero]
    refine lin_val (i := 1) (v := .int .i64 (ti (x0.lo))) rfl rfl (by rfl) (by intro x hx; have f0 := hx.load 0 0 rfl rfl; go_simp; (first | done | exact rfl)) ?_
    simp only [List.set_cons_succ, List.set_cons_zero]
    refine lin_val (i := 2) (v := .int .u64 (tn (x0.lo))) rfl rfl (by rfl) (by intro x hx; go_simp; (first | done | exact backI x0.lo | exact congrArg _ (backI x0.lo) | (rw [backI x0.lo]; done) | (rw [backI x0.lo]; rfl))) ?_
    simp only [List.set_cons_succ, List.set_cons_zero]
    refine lin_val (i := 3) (v := .pointer (some ⟨w.heap.size, 1, none⟩)) rfl rfl (by rfl) (by intro x hx; go_simp; (first | done | exact rfl)) ?_
    simp only [List.set_cons_succ, List.set_cons_zero]
    refine lin_val (i := 4) (v := .int .i64 (ti (x0.hi))) rfl rfl (by rfl) (by intro x hx; have f0 := hx.load 0 1 rfl rfl; go_simp; (first | done | exact rfl)) ?_
    simp only [List.set_cons_succ, List.set_cons_zero]
    refine lin_val (i := 5) (v := .int .u64 (tn (x0.hi))) rfl rfl (by rfl) (by intro x hx; go_simp; (first | done | exact backI x0.hi | exact congrArg _ (backI x0.hi) | (rw [backI x0.hi]; done) | (rw [backI x0.hi]; rfl))) ?_
    simp only [List.set_cons_succ, List.set_cons_zero]
    refine lin_val (i := 6) (v := .agg #[.int .u64 (tn (x0.lo)), .int .u64 (tn (x0.hi))]) rfl rfl (by rfl) (by intro x hx; go_simp; (first | done | exact rfl)) ?_
    simp only [List.set_cons_succ, List.set_cons_zero]
    refine lin_store (i := 7) (St w [⟨w.heap.size, [some (.int .i64 (ti (x0.lo))), some (.int .i64 (ti (x0.hi)))], 38⟩, ⟨w.heap.size + 1, [some (.int .u64 (tn (x0.lo))), some (.int .u64 (tn (x0.hi)))], 24⟩]) rfl rfl (by rfl) (fun x => ((x.setCell ⟨w.heap.size + 1, 0, none⟩ (.int .u64 (tn (x0.lo)))).setCell ⟨w.heap.size + 1, 1, none⟩ (.int .u64 (tn (x0.hi))))) (by intro x hx; obtain ⟨u0, z0⟩ := hx.has 1 0 rfl (by simp); have q0 := hx.soft 1 0 rfl; obtain ⟨u1, z1⟩ := hx.has 1 1 rfl (by simp); have q1 := hx.soft 1 1 rfl; go_simp; (first | done | rfl)) (fun x hx => ((hx.put 1 0 (.int .u64 (tn (x0.lo))) rfl).put 1 1 (.int .u64 (tn (x0.hi))) rfl)) ?_
    refine lin_done ?_
    intro W2 hx
    replace HS := hid hx
    clear hx
    go_wp2
    have r0 := HS.out.load 1 0 rfl rfl
    have r1 := HS.out.load 1 1 rfl rfl
    have HF : ref_ToSpan x0 = x0 := by
      unfold ref_ToSpan
      rw [cond_f h1.out]
    exact bodyPost_ret (v := .agg #[.int .u64 (tn (x0.lo)), .int .u64 (tn (x0.hi))]) (by simp [results, Try.results73, go_sem, r0, r1]) rfl ⟨(by first | (rw [HF]; done) | (rw [HF]; rfl)), HS.out.below⟩
  · replace h1 := hid h1
    -- region 2
    go_upto_region 2 with fail
    refine lin_begin (St w [⟨w.heap.size, [some (.int .i64 (ti (x0.lo))), some (.int .i64 (ti (x0.hi)))], 38⟩, ⟨w.heap.size + 1, [some (.int .u64 0), some (.int .u64 0)], 24⟩]) rfl HS.out ?_
    refine lin_call (i := 0) (f := 18) (args := #[]) (v := .agg #[.int .u64 (tn (0#64)), .int .u64 (tn (18446744073709551615#64))]) (st_ups _ _) rfl rfl (by rfl) (fun x hx => by kernel_rfl) (by intro x hx; exact ref_All_any _) ?_
    simp only [List.set_cons_succ, List.set_cons_zero]
    refine lin_store (i := 1) (St w [⟨w.heap.size, [some (.int .i64 (ti (x0.lo))), some (.int .i64 (ti (x0.hi)))], 38⟩, ⟨w.heap.size + 1, [some (.int .u64 (tn (0#64))), some (.int .u64 (tn (18446744073709551615#64)))], 24⟩]) rfl rfl (by rfl) (fun x => ((x.setCell ⟨w.heap.size + 1, 0, none⟩ (.int .u64 (tn (0#64)))).setCell ⟨w.heap.size + 1, 1, none⟩ (.int .u64 (tn (18446744073709551615#64))))) (by intro x hx; obtain ⟨u0, z0⟩ := hx.has 1 0 rfl (by simp); have q0 := hx.soft 1 0 rfl; obtain ⟨u1, z1⟩ := hx.has 1 1 rfl (by simp); have q1 := hx.soft 1 1 rfl; go_simp; (first | done | rfl)) (fun x hx => ((hx.put 1 0 (.int .u64 (tn (0#64))) rfl).put 1 1 (.int .u64 (tn (18446744073709551615#64))) rfl)) ?_
    refine lin_done ?_
    intro W2 hx
    replace HS := hid hx
    clear hx
    go_wp2
    have r0 := HS.out.load 1 0 rfl rfl
    have r1 := HS.out.load 1 1 rfl rfl
    have HF : ref_ToSpan x0 = P.mk 0#64 18446744073709551615#64 := by
      unfold ref_ToSpan
      rw [cond_t h1.out]
    exact bodyPost_ret (v := .agg #[.int .u64 (tn (0#64)), .int .u64 (tn (18446744073709551615#64))]) (by simp [results, Try.results73, go_sem, r0, r1]) rfl ⟨(by first | (rw [HF]; done) | (rw [HF]; rfl)), HS.out.below⟩
set_option maxRecDepth 100000 in
set_option maxHeartbeats 1000000 in
theorem ref_Bounds_any (x0 : P)  (w : World) :
    Calls Try.prog 76 #[.agg #[.int .u64 (tn (x0.lo)), .int .u64 (tn (x0.hi))]] w fun e w' => e = .returned (.agg #[.int .u64 (tn (x0.lo)), .int .u64 (tn (x0.lo + x0.hi))]) ∧ Below w.heap.size w w' := by
  go_enter Try.func76, Try.ntmps76
  have HS := hid (((st_nil w).alloc (k := w.heap.size) rfl [.int .u64 (tn (x0.lo)), .int .u64 (tn (x0.hi))] 51).alloc (k := w.heap.size + 1) (by simp) [.int .u64 0, .int .u64 0] 24)
  -- region 1
  go_upto_region 1 with fail
  refine lin_begin (St w [⟨w.heap.size, [some (.int .u64 (tn (x0.lo))), some (.int .u64 (tn (x0.hi)))], 51⟩, ⟨w.heap.size + 1, [some (.int .u64 0), some (.int .u64 0)], 24⟩]) rfl HS.out ?_
  refine lin_val (i := 0) (v := .pointer (some ⟨w.heap.size, 0, none⟩)) rfl rfl (by rfl) (by intro x hx; go_simp; (first | done | exact rfl)) ?_
  simp only [List.set_cons_succ, List.set_cons_zero]
  refine lin_val (i := 1) (v := .int .u64 (tn (x0.lo))) rfl rfl (by rfl) (by intro x hx; have f0 := hx.load 0 0 rfl rfl; go_simp; (first | done | exact rfl)) ?_
  simp only [List.set_cons_succ, List.set_cons_zero]
  refine lin_val (i := 2) (v := .pointer (some ⟨w.heap.size, 0, none⟩)) rfl rfl (by rfl) (by intro x hx; go_simp; (first | done | exact rfl)) ?_
  simp only [List.set_cons_succ, List.set_cons_zero]
  refine lin_val (i := 3) (v := .int .u64 (tn (x0.lo))) rfl rfl (by rfl) (by intro x hx; have f0 := hx.load 0 0 rfl rfl; go_simp; (first | done | exact rfl)) ?_
  simp only [List.set_cons_succ, List.set_cons_zero]
  refine lin_val (i := 4) (v := .pointer (some ⟨w.heap.size, 1, none⟩)) rfl rfl (by rfl) (by intro x hx; go_simp; (first | done | exact rfl)) ?_
  simp only [List.set_cons_succ, List.set_cons_zero]
  refine lin_val (i := 5) (v := .int .u64 (tn (x0.hi))) rfl rfl (by rfl) (by intro x hx; have f0 := hx.load 0 1 rfl rfl; go_simp; (first | done | exact rfl)) ?_
  simp only [List.set_cons_succ, List.set_cons_zero]
  refine lin_val (i := 6) (v := .int .u64 (tn (x0.lo + x0.hi))) rfl rfl (by rfl) (by intro x hx; go_simp; (first | done | exact addUT x0.lo x0.hi | exact congrArg _ (addUT x0.lo x0.hi) | (rw [addUT x0.lo x0.hi]; done) | (rw [addUT x0.lo x0.hi]; rfl))) ?_
  simp only [List.set_cons_succ, List.set_cons_zero]
  refine lin_val (i := 7) (v := .agg #[.int .u64 (tn (x0.lo)), .int .u64 (tn (x0.lo + x0.hi))]) rfl rfl (by rfl) (by intro x hx; go_simp; (first | done | exact rfl)) ?_
  simp only [List.set_cons_succ, List.set_cons_zero]
  refine lin_store (i := 8) (St w [⟨w.heap.size, [some (.int .u64 (tn (x0.lo))), some (.int .u64 (tn (x0.hi)))], 51⟩, ⟨w.heap.size + 1, [some (.int .u64 (tn (x0.lo))), some (.int .u64 (tn (x0.lo + x0.hi)))], 24⟩]) rfl rfl (by rfl) (fun x => ((x.setCell ⟨w.heap.size + 1, 0, none⟩ (.int .u64 (tn (x0.lo)))).setCell ⟨w.heap.size + 1, 1, none⟩ (.int .u64 (tn (x0.lo + x0.hi))))) (by intro x hx; obtain ⟨u0, z0⟩ := hx.has 1 0 rfl (by simp); have q0 := hx.soft 1 0 rfl; obtain ⟨u1, z1⟩ := hx.has 1 1 rfl (by simp); have q1 := hx.soft 1 1 rfl; go_simp; (first | done | rfl)) (fun x hx => ((hx.put 1 0 (.int .u64 (tn (x0.lo))) rfl).put 1 1 (.int .u64 (tn (x0.lo + x0.hi))) rfl)) ?_
  refine lin_done ?_
  intro W1 hx
  replace HS := hid hx
  clear hx
  go_wp2
  have r0 := HS.out.load 1 0 rfl rfl
  have r1 := HS.out.load 1 1 rfl rfl
  exact bodyPost_ret (v := .agg #[.int .u64 (tn (x0.lo)), .int .u64 (tn (x0.lo + x0.hi))]) (by simp [results, Try.results76, go_sem, r0, r1]) rfl ⟨rfl, HS.out.below⟩
def ref_Sbounds (x0 : P) : P :=
  bif geU x0.hi 9223372036854775808#64 then (P.mk (x0.lo + 9223372036854775808#64) ((x0.lo + x0.hi) - 9223372036854775808#64)) else (P.mk x0.lo (x0.lo + x0.hi))
set_option maxRecDepth 100000 in
set_option maxHeartbeats 1000000 in
theorem ref_Sbounds_any (x0 : P)  (w : World) :
    Calls Try.prog 78 #[.agg #[.int .u64 (tn (x0.lo)), .int .u64 (tn (x0.hi))]] w fun e w' => e = .returned (.agg #[.int .i64 (ti ((ref_Sbounds x0).lo)), .int .i64 (ti ((ref_Sbounds x0).hi))]) ∧ Below w.heap.size w w' := by
  go_enter Try.func78, Try.ntmps78
  have HS := hid (((st_nil w).alloc (k := w.heap.size) rfl [.int .u64 (tn (x0.lo)), .int .u64 (tn (x0.hi))] 51).alloc (k := w.heap.size + 1) (by simp) [.int .i64 0, .int .i64 0] 38)
  -- region 1
  go_upto_region 1 with fail
  refine lin_begin (St w [⟨w.heap.size, [some (.int .u64 (tn (x0.lo))), some (.int .u64 (tn (x0.hi)))], 51⟩, ⟨w.heap.size + 1, [some (.int .i64 0), some (.int .i64 0)], 38⟩]) rfl HS.out ?_
  refine lin_val (i := 0) (v := .pointer (some ⟨w.heap.size, 1, none⟩)) rfl rfl (by rfl) (by intro x hx; go_simp; (first | done | exact rfl)) ?_
  simp only [List.set_cons_succ, List.set_cons_zero]
  refine lin_val (i := 1) (v := .int .u64 (tn (x0.hi))) rfl rfl (by rfl) (by intro x hx; have f0 := hx.load 0 1 rfl rfl; go_simp; (first | done | exact rfl)) ?_
  simp only [List.set_cons_succ, List.set_cons_zero]
  refine lin_val (i := 2) (v := .bool (geU x0.hi 9223372036854775808#64)) rfl rfl (by rfl) (by intro x hx; go_simp; (first | done | exact geUT x0.hi 9223372036854775808#64 | exact congrArg _ (geUT x0.hi 9223372036854775808#64) | (rw [geUT x0.hi 9223372036854775808#64]; done) | (rw [geUT x0.hi 9223372036854775808#64]; rfl))) ?_
  simp only [List.set_cons_succ, List.set_cons_zero]
  refine lin_done ?_
  intro W1 hx
  replace HS := hid hx
  clear hx
  cases h1 : (geU x0.hi 9223372036854775808#64)
  · replace h1 := hid h1
    -- region 3
    go_upto_region 3 with fail
    refine lin_begin (St w [⟨w.heap.size, [some (.int .u64 (tn (x0.lo))), some (.int .u64 (tn (x0.hi)))], 51⟩, ⟨w.heap.size + 1, [some (.int .i64 0), some (.int .i64 0)], 38⟩]) rfl HS.out ?_
    refine lin_val (i := 0) (v := .pointer (some ⟨w.heap.size, 0, none⟩)) rfl rfl (by rfl) (by intro x hx; go_simp; (first | done | exact rfl)) ?_
    simp only [List.set_cons_succ, List.set_cons_zero]
    refine lin_val (i := 1) (v := .int .u64 (tn (x0.lo))) rfl rfl (by rfl) (by intro x hx; have f0 := hx.load 0 0 rfl rfl; go_simp; (first | done | exact rfl)) ?_
    simp only [List.set_cons_succ, List.set_cons_zero]
    refine lin_val (i := 2) (v := .int .i64 (ti (x0.lo))) rfl rfl (by rfl) (by intro x hx; go_simp; (first | done | exact toI64 x0.lo | exact congrArg _ (toI64 x0.lo) | (rw [toI64 x0.lo]; done) | (rw [toI64 x0.lo]; rfl))) ?_
    simp only [List.set_cons_succ, List.set_cons_zero]
    refine lin_val (i := 3) (v := .pointer (some ⟨w.heap.size, 0, none⟩)) rfl rfl (by rfl) (by intro x hx; go_simp; (first | done | exact rfl)) ?_
    simp only [List.set_cons_succ, List.set_cons_zero]
    refine lin_val (i := 4) (v := .int .u64 (tn (x0.lo))) rfl rfl (by rfl) (by intro x hx; have f0 := hx.load 0 0 rfl rfl; go_simp; (first | done | exact rfl)) ?_
    simp only [List.set_cons_succ, List.set_cons_zero]
    refine lin_val (i := 5) (v := .pointer (some ⟨w.heap.size, 1, none⟩)) rfl rfl (by rfl) (by intro x hx; go_simp; (first | done | exact rfl)) ?_
    simp only [List.set_cons_succ, List.set_cons_zero]
    refine lin_val (i := 6) (v := .int .u64 (tn (x0.hi))) rfl rfl (by rfl) (by intro x hx; have f0 := hx.load 0 1 rfl rfl; go_simp; (first | done | exact rfl)) ?_
    simp only [List.set_cons_succ, List.set_cons_zero]
    refine lin_val (i := 7) (v := .int .u64 (tn (x0.lo + x0.hi))) rfl rfl (by rfl) (by intro x hx; go_simp; (first | done | exact addUT x0.lo x0.hi | exact congrArg _ (addUT x0.lo x0.hi) | (rw [addUT x0.lo x0.hi]; done) | (rw [addUT x0.lo x0.hi]; rfl))) ?_
    simp only [List.set_cons_succ, List.set_cons_zero]
    refine lin_val (i := 8) (v := .int .i64 (ti (x0.lo + x0.hi))) rfl rfl (by rfl) (by intro x hx; go_simp; (first | done | exact toI64 (x0.lo + x0.hi) | exact congrArg _ (toI64 (x0.lo + x0.hi)) | (rw [toI64 (x0.lo + x0.hi)]; done) | (rw [toI64 (x0.lo + x0.hi)]; rfl))) ?_
    simp only [List.set_cons_succ, List.set_cons_zero]
    refine lin_val (i := 9) (v := .agg #[.int .i64 (ti (x0.lo)), .int .i64 (ti (x0.lo + x0.hi))]) rfl rfl (by rfl) (by intro x hx; go_simp; (first | done | exact rfl)) ?_
    simp only [List.set_cons_succ, List.set_cons_zero]
    refine lin_store (i := 10) (St w [⟨w.heap.size, [some (.int .u64 (tn (x0.lo))), some (.int .u64 (tn (x0.hi)))], 51⟩, ⟨w.heap.size + 1, [some (.int .i64 (ti (x0.lo))), some (.int .i64 (ti (x0.lo + x0.hi)))], 38⟩]) rfl rfl (by rfl) (fun x => ((x.setCell ⟨w.heap.size + 1, 0, none⟩ (.int .i64 (ti (x0.lo)))).setCell ⟨w.heap.size + 1, 1, none⟩ (.int .i64 (ti (x0.lo + x0.hi))))) (by intro x hx; obtain ⟨u0, z0⟩ := hx.has 1 0 rfl (by simp); have q0 := hx.soft 1 0 rfl; obtain ⟨u1, z1⟩ := hx.has 1 1 rfl (by simp); have q1 := hx.soft 1 1 rfl; go_simp; (first | done | rfl)) (fun x hx => ((hx.put 1 0 (.int .i64 (ti (x0.lo))) rfl).put 1 1 (.int .i64 (ti (x0.lo + x0.hi))) rfl)) ?_
    refine lin_done ?_
    intro W2 hx
    replace HS := hid hx
    clear hx
    go_wp2
    have r0 := HS.out.load 1 0 rfl rfl
    have r1 := HS.out.load 1 1 rfl rfl
    have HF : ref_Sbounds x0 = P.mk x0.lo (x0.lo + x0.hi) := by
      unfold ref_Sbounds
      rw [cond_f h1.out]
    exact bodyPost_ret (v := .agg #[.int .i64 (ti (x0.lo)), .int .i64 (ti (x0.lo + x0.hi))]) (by simp [results, Try.results78, go_sem, r0, r1]) rfl ⟨(by first | (rw [HF]; done) | (rw [HF]; rfl)), HS.out.below⟩
  · replace h1 := hid h1
    -- region 2
    go_upto_region 2 with fail
    refine lin_begin (St w [⟨w.heap.size, [some (.int .u64 (tn (x0.lo))), some (.int .u64 (tn (x0.hi)))], 51⟩, ⟨w.heap.size + 1, [some (.int .i64 0), some (.int .i64 0)], 38⟩]) rfl HS.out ?_
    refine lin_val (i := 0) (v := .pointer (some ⟨w.heap.size, 0, none⟩)) rfl rfl (by rfl) (by intro x hx; go_simp; (first | done | exact rfl)) ?_
    simp only [List.set_cons_succ, List.set_cons_zero]
    refine lin_val (i := 1) (v := .int .u64 (tn (x0.lo))) rfl rfl (by rfl) (by intro x hx; have f0 := hx.load 0 0 rfl rfl; go_simp; (first | done | exact rfl)) ?_
    simp only [List.set_cons_succ, List.set_cons_zero]
    refine lin_val (i := 2) (v := .int .u64 (tn (x0.lo + 9223372036854775808#64))) rfl rfl (by rfl) (by intro x hx; go_simp; (first | done | exact addUT x0.lo 9223372036854775808#64 | exact congrArg _ (addUT x0.lo 9223372036854775808#64) | (rw [addUT x0.lo 9223372036854775808#64]; done) | (rw [addUT x0.lo 9223372036854775808#64]; rfl))) ?_
    simp only [List.set_cons_succ, List.set_cons_zero]
    refine lin_val (i := 3) (v := .int .i64 (ti (x0.lo + 9223372036854775808#64))) rfl rfl (by rfl) (by intro x hx; go_simp; (first | done | exact toI64 (x0.lo + 9223372036854775808#64) | exact congrArg _ (toI64 (x0.lo + 9223372036854775808#64)) | (rw [toI64 (x0.lo + 9223372036854775808#64)]; done) | (rw [toI64 (x0.lo + 9223372036854775808#64)]; rfl))) ?_
    simp only [List.set_cons_succ, List.set_cons_zero]
    refine lin_val (i := 4) (v := .pointer (some ⟨w.heap.size, 0, none⟩)) rfl rfl (by rfl) (by intro x hx; go_simp; (first | done | exact rfl)) ?_
    simp only [List.set_cons_succ, List.set_cons_zero]
    refine lin_val (i := 5) (v := .int .u64 (tn (x0.lo))) rfl rfl (by rfl) (by intro x hx; have f0 := hx.load 0 0 rfl rfl; go_simp; (first | done | exact rfl)) ?_
    simp only [List.set_cons_succ, List.set_cons_zero]
    refine lin_val (i := 6) (v := .pointer (some ⟨w.heap.size, 1, none⟩)) rfl rfl (by rfl) (by intro x hx; go_simp; (first | done | exact rfl)) ?_
    simp only [List.set_cons_succ, List.set_cons_zero]
    refine lin_val (i := 7) (v := .int .u64 (tn (x0.hi))) rfl rfl (by rfl) (by intro x hx; have f0 := hx.load 0 1 rfl rfl; go_simp; (first | done | exact rfl)) ?_
    simp only [List.set_cons_succ, List.set_cons_zero]
    refine lin_val (i := 8) (v := .int .u64 (tn (x0.lo + x0.hi))) rfl rfl (by rfl) (by intro x hx; go_simp; (first | done | exact addUT x0.lo x0.hi | exact congrArg _ (addUT x0.lo x0.hi) | (rw [addUT x0.lo x0.hi]; done) | (rw [addUT x0.lo x0.hi]; rfl))) ?_
    simp only [List.set_cons_succ, List.set_cons_zero]
    refine lin_val (i := 9) (v := .int .u64 (tn ((x0.lo + x0.hi) - 9223372036854775808#64))) rfl rfl (by rfl) (by intro x hx; go_simp; (first | done | exact subUT (x0.lo + x0.hi) 9223372036854775808#64 | exact congrArg _ (subUT (x0.lo + x0.hi) 9223372036854775808#64) | (rw [subUT (x0.lo + x0.hi) 9223372036854775808#64]; done) | (rw [subUT (x0.lo + x0.hi) 9223372036854775808#64]; rfl))) ?_
    simp only [List.set_cons_succ, List.set_cons_zero]
    refine lin_val (i := 10) (v := .int .i64 (ti ((x0.lo + x0.hi) - 9223372036854775808#64))) rfl rfl (by rfl) (by intro x hx; go_simp; (first | done | exact toI64 ((x0.lo + x0.hi) - 9223372036854775808#64) | exact congrArg _ (toI64 ((x0.lo + x0.hi) - 9223372036854775808#64)) | (rw [toI64 ((x0.lo + x0.hi) - 9223372036854775808#64)]; done) | (rw [toI64 ((x0.lo + x0.hi) - 9223372036854775808#64)]; rfl))) ?_
    simp only [List.set_cons_succ, List.set_cons_zero]
    refine lin_val (i := 11) (v := .agg #[.int .i64 (ti (x0.lo + 9223372036854775808#64)), .int .i64 (ti ((x0.lo + x0.hi) - 9223372036854775808#64))]) rfl rfl (by rfl) (by intro x hx; go_simp; (first | done | exact rfl)) ?_
    simp only [List.set_cons_succ, List.set_cons_zero]
    refine lin_store (i := 12) (St w [⟨w.heap.size, [some (.int .u64 (tn (x0.lo))), some (.int .u64 (tn (x0.hi)))], 51⟩, ⟨w.heap.size + 1, [some (.int .i64 (ti (x0.lo + 9223372036854775808#64))), some (.int .i64 (ti ((x0.lo + x0.hi) - 9223372036854775808#64)))], 38⟩]) rfl rfl (by rfl) (fun x => ((x.setCell ⟨w.heap.size + 1, 0, none⟩ (.int .i64 (ti (x0.lo + 9223372036854775808#64)))).setCell ⟨w.heap.size + 1, 1, none⟩ (.int .i64 (ti ((x0.lo + x0.hi) - 9223372036854775808#64))))) (by intro x hx; obtain ⟨u0, z0⟩ := hx.has 1 0 rfl (by simp); have q0 := hx.soft 1 0 rfl; obtain ⟨u1, z1⟩ := hx.has 1 1 rfl (by simp); have q1 := hx.soft 1 1 rfl; go_simp; (first | done | rfl)) (fun x hx => ((hx.put 1 0 (.int .i64 (ti (x0.lo + 9223372036854775808#64))) rfl).put 1 1 (.int .i64 (ti ((x0.lo + x0.hi) - 9223372036854775808#64))) rfl)) ?_
    refine lin_done ?_
    intro W2 hx
    replace HS := hid hx
    clear hx
    go_wp2
    have r0 := HS.out.load 1 0 rfl rfl
    have r1 := HS.out.load 1 1 rfl rfl
    have HF : ref_Sbounds x0 = P.mk (x0.lo + 9223372036854775808#64) ((x0.lo + x0.hi) - 9223372036854775808#64) := by
      unfold ref_Sbounds
      rw [cond_t h1.out]
    exact bodyPost_ret (v := .agg #[.int .i64 (ti (x0.lo + 9223372036854775808#64)), .int .i64 (ti ((x0.lo + x0.hi) - 9223372036854775808#64))]) (by simp [results, Try.results78, go_sem, r0, r1]) rfl ⟨(by first | (rw [HF]; done) | (rw [HF]; rfl)), HS.out.below⟩
end Go.Proofs.Ytoojdndfjfmemaa.Sp
