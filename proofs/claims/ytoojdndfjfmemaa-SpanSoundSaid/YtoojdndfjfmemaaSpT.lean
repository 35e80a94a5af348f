/-
  The walk of the law SpanSound.
-/
import Derived.Deep.DeepCutAuto
import Derived.Test.YtoojdndfjfmemaaSpF
import Derived.Test.YtoojdndfjfmemaaSpS
import Derived.Test.YtoojdndfjfmemaaSpP
import Derived.Test.YtoojdndfjfmemaaIf
namespace Go.Proofs.Ytoojdndfjfmemaa.Sp
open Go.RowKit Go.Proofs.Ytoojdndfjfmemaa.Num Go.Proofs.Ytoojdndfjfmemaa.Up
theorem from_ok (x y : BitVec 64) : tn (fromP x y).lo ≤ tn (fromP x y).hi := from_le x y
theorem inside_ok {a : P} (h : tn a.lo ≤ tn a.hi) (v : BitVec 64) : inS a (insideV a v) := inside_in h v
theorem nn {b : Bool} (h : (!b) = false) : b = true := by cases b <;> simp at h ⊢
theorem meet_t {a b : P} (h : tn a.lo ≤ tn a.hi) (k : tn b.lo ≤ tn b.hi) (e : leU a.lo b.hi = true) : ((span_meet_uint64 a b).2 == leU b.lo a.hi) = true := by
  rw [meet_flag h k, e, Bool.true_and]; exact beq_self_eq_true _
theorem meet_f {a b : P} (h : tn a.lo ≤ tn a.hi) (k : tn b.lo ≤ tn b.hi) (e : leU a.lo b.hi = false) : ((span_meet_uint64 a b).2 == false) = true := by
  rw [meet_flag h k, e]; rfl
set_option maxRecDepth 100000 in
set_option maxHeartbeats 8000000 in
theorem spanSound (x0 : Near)  (w : World) :
    Calls Try.prog 6 #[.agg #[.int .u64 (tn (x0.A.lo)), .int .u64 (tn (x0.A.hi)), .int .u64 (tn (x0.B.lo)), .int .u64 (tn (x0.B.hi)), .int .u64 (tn (x0.V)), .int .u64 (tn (x0.W)), .int .i64 (ti (x0.N))]] w fun e w' => e = .returned (.bool true) ∧ Below w.heap.size w w' := by
  have HLA := hid (from_ok x0.A.lo x0.A.hi)
  have HLB := hid (from_ok x0.B.lo x0.B.hi)
  have HA := hid (inside_ok HLA.out x0.V)
  have HB := hid (inside_ok HLB.out x0.W)
  go_enter Try.func6, Try.ntmps6
  have HS := hid ((st_nil w).alloc (k := w.heap.size) rfl [.int .u64 (tn (x0.A.lo)), .int .u64 (tn (x0.A.hi)), .int .u64 (tn (x0.B.lo)), .int .u64 (tn (x0.B.hi)), .int .u64 (tn (x0.V)), .int .u64 (tn (x0.W)), .int .i64 (ti (x0.N))] 60)
  -- region 1
  go_upto_region 1 with fail
  refine lin_begin (St w [⟨w.heap.size, [some (.int .u64 (tn (x0.A.lo))), some (.int .u64 (tn (x0.A.hi))), some (.int .u64 (tn (x0.B.lo))), some (.int .u64 (tn (x0.B.hi))), some (.int .u64 (tn (x0.V))), some (.int .u64 (tn (x0.W))), some (.int .i64 (ti (x0.N)))], 60⟩]) rfl HS.out ?_
  refine lin_val (i := 0) (v := .pointer (some ⟨w.heap.size, 0, none⟩)) rfl rfl (by rfl) (by intro x hx; go_simp; (first | done | exact rfl)) ?_
  simp only [List.set_cons_succ, List.set_cons_zero]
  refine lin_val (i := 1) (v := .pointer (some ⟨w.heap.size, 0, none⟩)) rfl rfl (by rfl) (by intro x hx; go_simp; (first | done | exact rfl)) ?_
  simp only [List.set_cons_succ, List.set_cons_zero]
  refine lin_val (i := 2) (v := .int .u64 (tn (x0.A.lo))) rfl rfl (by rfl) (by intro x hx; have f0 := hx.load 0 0 rfl rfl; go_simp; (first | done | exact rfl)) ?_
  simp only [List.set_cons_succ, List.set_cons_zero]
  refine lin_val (i := 3) (v := .pointer (some ⟨w.heap.size, 0, none⟩)) rfl rfl (by rfl) (by intro x hx; go_simp; (first | done | exact rfl)) ?_
  simp only [List.set_cons_succ, List.set_cons_zero]
  refine lin_val (i := 4) (v := .pointer (some ⟨w.heap.size, 1, none⟩)) rfl rfl (by rfl) (by intro x hx; go_simp; (first | done | exact rfl)) ?_
  simp only [List.set_cons_succ, List.set_cons_zero]
  refine lin_val (i := 5) (v := .int .u64 (tn (x0.A.hi))) rfl rfl (by rfl) (by intro x hx; have f0 := hx.load 0 1 rfl rfl; go_simp; (first | done | exact rfl)) ?_
  simp only [List.set_cons_succ, List.set_cons_zero]
  refine lin_call (i := 6) (f := 79) (args := #[.int .u64 (tn (x0.A.lo)), .int .u64 (tn (x0.A.hi))]) (v := .agg #[.int .u64 (tn ((fromP x0.A.lo x0.A.hi).lo)), .int .u64 (tn ((fromP x0.A.lo x0.A.hi).hi))]) (st_ups _ _) rfl rfl (by rfl) (fun x hx => by kernel_rfl) (by intro x hx; exact fromP_any x0.A.lo x0.A.hi _) ?_
  simp only [List.set_cons_succ, List.set_cons_zero]
  refine lin_new (i := 7) rfl rfl (by rfl) [.int .u64 0, .int .u64 0] 24 (fun k => .pointer (some ⟨k, 0, none⟩)) [some (.int .u64 0), some (.int .u64 0)] (lessC_eq (lessC_eq (trivial))) (by intro x hx; go_simp; (first | done | exact rfl)) (fun k1 => ?_)
  simp only [List.set_cons_succ, List.set_cons_zero]
  refine lin_store (i := 8) (St w [⟨w.heap.size, [some (.int .u64 (tn (x0.A.lo))), some (.int .u64 (tn (x0.A.hi))), some (.int .u64 (tn (x0.B.lo))), some (.int .u64 (tn (x0.B.hi))), some (.int .u64 (tn (x0.V))), some (.int .u64 (tn (x0.W))), some (.int .i64 (ti (x0.N)))], 60⟩, ⟨k1, [some (.int .u64 (tn ((fromP x0.A.lo x0.A.hi).lo))), some (.int .u64 (tn ((fromP x0.A.lo x0.A.hi).hi)))], 24⟩]) rfl rfl (by rfl) (fun x => ((x.setCell ⟨k1, 0, none⟩ (.int .u64 (tn ((fromP x0.A.lo x0.A.hi).lo)))).setCell ⟨k1, 1, none⟩ (.int .u64 (tn ((fromP x0.A.lo x0.A.hi).hi))))) (by intro x hx; obtain ⟨u0, z0⟩ := hx.has 1 0 rfl (by simp); have q0 := hx.soft 1 0 rfl; obtain ⟨u1, z1⟩ := hx.has 1 1 rfl (by simp); have q1 := hx.soft 1 1 rfl; go_simp; (first | done | rfl)) (fun x hx => ((hx.put 1 0 (.int .u64 (tn ((fromP x0.A.lo x0.A.hi).lo))) rfl).put 1 1 (.int .u64 (tn ((fromP x0.A.lo x0.A.hi).hi))) rfl)) ?_
  refine lin_done ?_
  intro W1 hx
  replace HS := hid hx
  clear hx
  -- region 2
  go_upto_region 2 with fail
  refine lin_begin (St w [⟨w.heap.size, [some (.int .u64 (tn (x0.A.lo))), some (.int .u64 (tn (x0.A.hi))), some (.int .u64 (tn (x0.B.lo))), some (.int .u64 (tn (x0.B.hi))), some (.int .u64 (tn (x0.V))), some (.int .u64 (tn (x0.W))), some (.int .i64 (ti (x0.N)))], 60⟩, ⟨k1, [some (.int .u64 (tn ((fromP x0.A.lo x0.A.hi).lo))), some (.int .u64 (tn ((fromP x0.A.lo x0.A.hi).hi)))], 24⟩]) rfl HS.out ?_
  refine lin_val (i := 0) (v := .pointer (some ⟨w.heap.size, 2, none⟩)) rfl rfl (by rfl) (by intro x hx; go_simp; (first | done | exact rfl)) ?_
  simp only [List.set_cons_succ, List.set_cons_zero]
  refine lin_val (i := 1) (v := .pointer (some ⟨w.heap.size, 2, none⟩)) rfl rfl (by rfl) (by intro x hx; go_simp; (first | done | exact rfl)) ?_
  simp only [List.set_cons_succ, List.set_cons_zero]
  refine lin_val (i := 2) (v := .int .u64 (tn (x0.B.lo))) rfl rfl (by rfl) (by intro x hx; have f0 := hx.load 0 2 rfl rfl; go_simp; (first | done | exact rfl)) ?_
  simp only [List.set_cons_succ, List.set_cons_zero]
  refine lin_val (i := 3) (v := .pointer (some ⟨w.heap.size, 2, none⟩)) rfl rfl (by rfl) (by intro x hx; go_simp; (first | done | exact rfl)) ?_
  simp only [List.set_cons_succ, List.set_cons_zero]
  refine lin_val (i := 4) (v := .pointer (some ⟨w.heap.size, 3, none⟩)) rfl rfl (by rfl) (by intro x hx; go_simp; (first | done | exact rfl)) ?_
  simp only [List.set_cons_succ, List.set_cons_zero]
  refine lin_val (i := 5) (v := .int .u64 (tn (x0.B.hi))) rfl rfl (by rfl) (by intro x hx; have f0 := hx.load 0 3 rfl rfl; go_simp; (first | done | exact rfl)) ?_
  simp only [List.set_cons_succ, List.set_cons_zero]
  refine lin_call (i := 6) (f := 79) (args := #[.int .u64 (tn (x0.B.lo)), .int .u64 (tn (x0.B.hi))]) (v := .agg #[.int .u64 (tn ((fromP x0.B.lo x0.B.hi).lo)), .int .u64 (tn ((fromP x0.B.lo x0.B.hi).hi))]) (st_ups _ _) rfl rfl (by rfl) (fun x hx => by kernel_rfl) (by intro x hx; exact fromP_any x0.B.lo x0.B.hi _) ?_
  simp only [List.set_cons_succ, List.set_cons_zero]
  refine lin_new (i := 7) rfl rfl (by rfl) [.int .u64 0, .int .u64 0] 24 (fun k => .pointer (some ⟨k, 0, none⟩)) [some (.int .u64 0), some (.int .u64 0)] (lessC_eq (lessC_eq (trivial))) (by intro x hx; go_simp; (first | done | exact rfl)) (fun k2 => ?_)
  simp only [List.set_cons_succ, List.set_cons_zero]
  refine lin_store (i := 8) (St w [⟨w.heap.size, [some (.int .u64 (tn (x0.A.lo))), some (.int .u64 (tn (x0.A.hi))), some (.int .u64 (tn (x0.B.lo))), some (.int .u64 (tn (x0.B.hi))), some (.int .u64 (tn (x0.V))), some (.int .u64 (tn (x0.W))), some (.int .i64 (ti (x0.N)))], 60⟩, ⟨k1, [some (.int .u64 (tn ((fromP x0.A.lo x0.A.hi).lo))), some (.int .u64 (tn ((fromP x0.A.lo x0.A.hi).hi)))], 24⟩, ⟨k2, [some (.int .u64 (tn ((fromP x0.B.lo x0.B.hi).lo))), some (.int .u64 (tn ((fromP x0.B.lo x0.B.hi).hi)))], 24⟩]) rfl rfl (by rfl) (fun x => ((x.setCell ⟨k2, 0, none⟩ (.int .u64 (tn ((fromP x0.B.lo x0.B.hi).lo)))).setCell ⟨k2, 1, none⟩ (.int .u64 (tn ((fromP x0.B.lo x0.B.hi).hi))))) (by intro x hx; obtain ⟨u0, z0⟩ := hx.has 2 0 rfl (by simp); have q0 := hx.soft 2 0 rfl; obtain ⟨u1, z1⟩ := hx.has 2 1 rfl (by simp); have q1 := hx.soft 2 1 rfl; go_simp; (first | done | rfl)) (fun x hx => ((hx.put 2 0 (.int .u64 (tn ((fromP x0.B.lo x0.B.hi).lo))) rfl).put 2 1 (.int .u64 (tn ((fromP x0.B.lo x0.B.hi).hi))) rfl)) ?_
  refine lin_done ?_
  intro W2 hx
  replace HS := hid hx
  clear hx
  -- region 3
  go_upto_region 3 with fail
  refine lin_begin (St w [⟨w.heap.size, [some (.int .u64 (tn (x0.A.lo))), some (.int .u64 (tn (x0.A.hi))), some (.int .u64 (tn (x0.B.lo))), some (.int .u64 (tn (x0.B.hi))), some (.int .u64 (tn (x0.V))), some (.int .u64 (tn (x0.W))), some (.int .i64 (ti (x0.N)))], 60⟩, ⟨k1, [some (.int .u64 (tn ((fromP x0.A.lo x0.A.hi).lo))), some (.int .u64 (tn ((fromP x0.A.lo x0.A.hi).hi)))], 24⟩, ⟨k2, [some (.int .u64 (tn ((fromP x0.B.lo x0.B.hi).lo))), some (.int .u64 (tn ((fromP x0.B.lo x0.B.hi).hi)))], 24⟩]) rfl HS.out ?_
  refine lin_val (i := 0) (v := .agg #[.int .u64 (tn ((fromP x0.A.lo x0.A.hi).lo)), .int .u64 (tn ((fromP x0.A.lo x0.A.hi).hi))]) rfl rfl (by rfl) (by intro x hx; have f0 := hx.load 1 0 rfl rfl; have f1 := hx.load 1 1 rfl rfl; go_simp; (first | done | exact rfl)) ?_
  simp only [List.set_cons_succ, List.set_cons_zero]
  refine lin_val (i := 1) (v := .pointer (some ⟨w.heap.size, 4, none⟩)) rfl rfl (by rfl) (by intro x hx; go_simp; (first | done | exact rfl)) ?_
  simp only [List.set_cons_succ, List.set_cons_zero]
  refine lin_val (i := 2) (v := .int .u64 (tn (x0.V))) rfl rfl (by rfl) (by intro x hx; have f0 := hx.load 0 4 rfl rfl; go_simp; (first | done | exact rfl)) ?_
  simp only [List.set_cons_succ, List.set_cons_zero]
  refine lin_call (i := 3) (f := 80) (args := #[.agg #[.int .u64 (tn ((fromP x0.A.lo x0.A.hi).lo)), .int .u64 (tn ((fromP x0.A.lo x0.A.hi).hi))], .int .u64 (tn (x0.V))]) (v := .int .u64 (tn (insideV (fromP x0.A.lo x0.A.hi) x0.V))) (st_ups _ _) rfl rfl (by rfl) (fun x hx => by kernel_rfl) (by intro x hx; exact insideV_any (fromP x0.A.lo x0.A.hi) x0.V _) ?_
  simp only [List.set_cons_succ, List.set_cons_zero]
  refine lin_val (i := 4) (v := .int .u64 (tn (insideV (fromP x0.A.lo x0.A.hi) x0.V))) rfl rfl (by rfl) (by intro x hx; go_simp; (first | done | exact rfl)) ?_
  simp only [List.set_cons_succ, List.set_cons_zero]
  refine lin_done ?_
  intro W3 hx
  replace HS := hid hx
  clear hx
  -- region 4
  go_upto_region 4 with fail
  refine lin_begin (St w [⟨w.heap.size, [some (.int .u64 (tn (x0.A.lo))), some (.int .u64 (tn (x0.A.hi))), some (.int .u64 (tn (x0.B.lo))), some (.int .u64 (tn (x0.B.hi))), some (.int .u64 (tn (x0.V))), some (.int .u64 (tn (x0.W))), some (.int .i64 (ti (x0.N)))], 60⟩, ⟨k1, [some (.int .u64 (tn ((fromP x0.A.lo x0.A.hi).lo))), some (.int .u64 (tn ((fromP x0.A.lo x0.A.hi).hi)))], 24⟩, ⟨k2, [some (.int .u64 (tn ((fromP x0.B.lo x0.B.hi).lo))), some (.int .u64 (tn ((fromP x0.B.lo x0.B.hi).hi)))], 24⟩]) rfl HS.out ?_
  refine lin_val (i := 0) (v := .agg #[.int .u64 (tn ((fromP x0.B.lo x0.B.hi).lo)), .int .u64 (tn ((fromP x0.B.lo x0.B.hi).hi))]) rfl rfl (by rfl) (by intro x hx; have f0 := hx.load 2 0 rfl rfl; have f1 := hx.load 2 1 rfl rfl; go_simp; (first | done | exact rfl)) ?_
  simp only [List.set_cons_succ, List.set_cons_zero]
  refine lin_val (i := 1) (v := .pointer (some ⟨w.heap.size, 5, none⟩)) rfl rfl (by rfl) (by intro x hx; go_simp; (first | done | exact rfl)) ?_
  simp only [List.set_cons_succ, List.set_cons_zero]
  refine lin_val (i := 2) (v := .int .u64 (tn (x0.W))) rfl rfl (by rfl) (by intro x hx; have f0 := hx.load 0 5 rfl rfl; go_simp; (first | done | exact rfl)) ?_
  simp only [List.set_cons_succ, List.set_cons_zero]
  refine lin_call (i := 3) (f := 80) (args := #[.agg #[.int .u64 (tn ((fromP x0.B.lo x0.B.hi).lo)), .int .u64 (tn ((fromP x0.B.lo x0.B.hi).hi))], .int .u64 (tn (x0.W))]) (v := .int .u64 (tn (insideV (fromP x0.B.lo x0.B.hi) x0.W))) (st_ups _ _) rfl rfl (by rfl) (fun x hx => by kernel_rfl) (by intro x hx; exact insideV_any (fromP x0.B.lo x0.B.hi) x0.W _) ?_
  simp only [List.set_cons_succ, List.set_cons_zero]
  refine lin_val (i := 4) (v := .int .u64 (tn (insideV (fromP x0.B.lo x0.B.hi) x0.W))) rfl rfl (by rfl) (by intro x hx; go_simp; (first | done | exact rfl)) ?_
  simp only [List.set_cons_succ, List.set_cons_zero]
  refine lin_done ?_
  intro W4 hx
  replace HS := hid hx
  clear hx
  -- region 5
  go_upto_region 5 with fail
  refine lin_begin (St w [⟨w.heap.size, [some (.int .u64 (tn (x0.A.lo))), some (.int .u64 (tn (x0.A.hi))), some (.int .u64 (tn (x0.B.lo))), some (.int .u64 (tn (x0.B.hi))), some (.int .u64 (tn (x0.V))), some (.int .u64 (tn (x0.W))), some (.int .i64 (ti (x0.N)))], 60⟩, ⟨k1, [some (.int .u64 (tn ((fromP x0.A.lo x0.A.hi).lo))), some (.int .u64 (tn ((fromP x0.A.lo x0.A.hi).hi)))], 24⟩, ⟨k2, [some (.int .u64 (tn ((fromP x0.B.lo x0.B.hi).lo))), some (.int .u64 (tn ((fromP x0.B.lo x0.B.hi).hi)))], 24⟩]) rfl HS.out ?_
  refine lin_val (i := 0) (v := .pointer (some ⟨w.heap.size, 6, none⟩)) rfl rfl (by rfl) (by intro x hx; go_simp; (first | done | exact rfl)) ?_
  simp only [List.set_cons_succ, List.set_cons_zero]
  refine lin_val (i := 1) (v := .int .i64 (ti (x0.N))) rfl rfl (by rfl) (by intro x hx; have f0 := hx.load 0 6 rfl rfl; go_simp; (first | done | exact rfl)) ?_
  simp only [List.set_cons_succ, List.set_cons_zero]
  refine lin_val (i := 2) (v := .int .u64 (tn (x0.N))) rfl rfl (by rfl) (by intro x hx; go_simp; (first | done | exact backI x0.N | exact congrArg _ (backI x0.N) | (rw [backI x0.N]; done) | (rw [backI x0.N]; rfl))) ?_
  simp only [List.set_cons_succ, List.set_cons_zero]
  refine lin_val (i := 3) (v := .int .u64 (tn (x0.N % 64#64))) rfl rfl (by rfl) (by intro x hx; go_simp; (first | done | exact remUT x0.N 64#64 | exact congrArg _ (remUT x0.N 64#64) | (rw [remUT x0.N 64#64]; done) | (rw [remUT x0.N 64#64]; rfl))) ?_
  simp only [List.set_cons_succ, List.set_cons_zero]
  refine lin_val (i := 4) (v := .int .u64 (tn (x0.N % 64#64))) rfl rfl (by rfl) (by intro x hx; go_simp; (first | done | exact rfl)) ?_
  simp only [List.set_cons_succ, List.set_cons_zero]
  refine lin_done ?_
  intro W5 hx
  replace HS := hid hx
  clear hx
  -- region 6
  go_upto_region 6 with fail
  refine lin_begin (St w [⟨w.heap.size, [some (.int .u64 (tn (x0.A.lo))), some (.int .u64 (tn (x0.A.hi))), some (.int .u64 (tn (x0.B.lo))), some (.int .u64 (tn (x0.B.hi))), some (.int .u64 (tn (x0.V))), some (.int .u64 (tn (x0.W))), some (.int .i64 (ti (x0.N)))], 60⟩, ⟨k1, [some (.int .u64 (tn ((fromP x0.A.lo x0.A.hi).lo))), some (.int .u64 (tn ((fromP x0.A.lo x0.A.hi).hi)))], 24⟩, ⟨k2, [some (.int .u64 (tn ((fromP x0.B.lo x0.B.hi).lo))), some (.int .u64 (tn ((fromP x0.B.lo x0.B.hi).hi)))], 24⟩]) rfl HS.out ?_
  refine lin_val (i := 0) (v := .agg #[.int .u64 (tn ((fromP x0.A.lo x0.A.hi).lo)), .int .u64 (tn ((fromP x0.A.lo x0.A.hi).hi))]) rfl rfl (by rfl) (by intro x hx; have f0 := hx.load 1 0 rfl rfl; have f1 := hx.load 1 1 rfl rfl; go_simp; (first | done | exact rfl)) ?_
  simp only [List.set_cons_succ, List.set_cons_zero]
  refine lin_val (i := 1) (v := .int .u64 (tn (insideV (fromP x0.A.lo x0.A.hi) x0.V))) rfl rfl (by rfl) (by intro x hx; go_simp; (first | done | exact rfl)) ?_
  simp only [List.set_cons_succ, List.set_cons_zero]
  refine lin_call (i := 2) (f := 19) (args := #[.agg #[.int .u64 (tn ((fromP x0.A.lo x0.A.hi).lo)), .int .u64 (tn ((fromP x0.A.lo x0.A.hi).hi))], .int .u64 (tn (insideV (fromP x0.A.lo x0.A.hi) x0.V))]) (v := .bool true) (st_ups _ _) rfl rfl (by rfl) (fun x hx => by kernel_rfl) (by intro x hx; exact calls_is (span_In_any (fromP x0.A.lo x0.A.hi) (insideV (fromP x0.A.lo x0.A.hi) x0.V) _) (congrArg Value.bool (in_of HA.out))) ?_
  simp only [List.set_cons_succ, List.set_cons_zero]
  refine lin_val (i := 3) (v := .bool false) rfl rfl (by rfl) (by intro x hx; go_simp; (first | done | exact rfl)) ?_
  simp only [List.set_cons_succ, List.set_cons_zero]
  refine lin_val (i := 4) (v := .bool false) rfl rfl (by rfl) (by intro x hx; go_simp; (first | done | exact rfl)) ?_
  simp only [List.set_cons_succ, List.set_cons_zero]
  refine lin_val (i := 5) (v := .agg #[.int .u64 (tn ((fromP x0.A.lo x0.A.hi).lo)), .int .u64 (tn ((fromP x0.A.lo x0.A.hi).hi))]) rfl rfl (by rfl) (by intro x hx; have f0 := hx.load 1 0 rfl rfl; have f1 := hx.load 1 1 rfl rfl; go_simp; (first | done | exact rfl)) ?_
  simp only [List.set_cons_succ, List.set_cons_zero]
  refine lin_val (i := 6) (v := .agg #[.int .u64 (tn ((fromP x0.B.lo x0.B.hi).lo)), .int .u64 (tn ((fromP x0.B.lo x0.B.hi).hi))]) rfl rfl (by rfl) (by intro x hx; have f0 := hx.load 2 0 rfl rfl; have f1 := hx.load 2 1 rfl rfl; go_simp; (first | done | exact rfl)) ?_
  simp only [List.set_cons_succ, List.set_cons_zero]
  refine lin_call (i := 7) (f := 25) (args := #[.agg #[.int .u64 (tn ((fromP x0.A.lo x0.A.hi).lo)), .int .u64 (tn ((fromP x0.A.lo x0.A.hi).hi))], .agg #[.int .u64 (tn ((fromP x0.B.lo x0.B.hi).lo)), .int .u64 (tn ((fromP x0.B.lo x0.B.hi).hi))]]) (v := .agg #[.int .u64 (tn ((span_Add (fromP x0.A.lo x0.A.hi) (fromP x0.B.lo x0.B.hi)).lo)), .int .u64 (tn ((span_Add (fromP x0.A.lo x0.A.hi) (fromP x0.B.lo x0.B.hi)).hi))]) (st_ups _ _) rfl rfl (by rfl) (fun x hx => by kernel_rfl) (by intro x hx; exact span_Add_any (fromP x0.A.lo x0.A.hi) (fromP x0.B.lo x0.B.hi) _) ?_
  simp only [List.set_cons_succ, List.set_cons_zero]
  refine lin_val (i := 8) (v := .int .u64 (tn (insideV (fromP x0.A.lo x0.A.hi) x0.V))) rfl rfl (by rfl) (by intro x hx; go_simp; (first | done | exact rfl)) ?_
  simp only [List.set_cons_succ, List.set_cons_zero]
  refine lin_val (i := 9) (v := .int .u64 (tn (insideV (fromP x0.B.lo x0.B.hi) x0.W))) rfl rfl (by rfl) (by intro x hx; go_simp; (first | done | exact rfl)) ?_
  simp only [List.set_cons_succ, List.set_cons_zero]
  refine lin_val (i := 10) (v := .int .u64 (tn ((insideV (fromP x0.A.lo x0.A.hi) x0.V) + (insideV (fromP x0.B.lo x0.B.hi) x0.W)))) rfl rfl (by rfl) (by intro x hx; go_simp; (first | done | exact addUT (insideV (fromP x0.A.lo x0.A.hi) x0.V) (insideV (fromP x0.B.lo x0.B.hi) x0.W) | exact congrArg _ (addUT (insideV (fromP x0.A.lo x0.A.hi) x0.V) (insideV (fromP x0.B.lo x0.B.hi) x0.W)) | (rw [addUT (insideV (fromP x0.A.lo x0.A.hi) x0.V) (insideV (fromP x0.B.lo x0.B.hi) x0.W)]; done) | (rw [addUT (insideV (fromP x0.A.lo x0.A.hi) x0.V) (insideV (fromP x0.B.lo x0.B.hi) x0.W)]; rfl))) ?_
  simp only [List.set_cons_succ, List.set_cons_zero]
  refine lin_call (i := 11) (f := 19) (args := #[.agg #[.int .u64 (tn ((span_Add (fromP x0.A.lo x0.A.hi) (fromP x0.B.lo x0.B.hi)).lo)), .int .u64 (tn ((span_Add (fromP x0.A.lo x0.A.hi) (fromP x0.B.lo x0.B.hi)).hi))], .int .u64 (tn ((insideV (fromP x0.A.lo x0.A.hi) x0.V) + (insideV (fromP x0.B.lo x0.B.hi) x0.W)))]) (v := .bool true) (st_ups _ _) rfl rfl (by rfl) (fun x hx => by kernel_rfl) (by intro x hx; exact calls_is (span_In_any (span_Add (fromP x0.A.lo x0.A.hi) (fromP x0.B.lo x0.B.hi)) ((insideV (fromP x0.A.lo x0.A.hi) x0.V) + (insideV (fromP x0.B.lo x0.B.hi) x0.W)) _) (congrArg Value.bool (in_of (add_in' HA.out HB.out)))) ?_
  simp only [List.set_cons_succ, List.set_cons_zero]
  refine lin_val (i := 12) (v := .bool false) rfl rfl (by rfl) (by intro x hx; go_simp; (first | done | exact rfl)) ?_
  simp only [List.set_cons_succ, List.set_cons_zero]
  refine lin_val (i := 13) (v := .bool false) rfl rfl (by rfl) (by intro x hx; go_simp; (first | done | exact rfl)) ?_
  simp only [List.set_cons_succ, List.set_cons_zero]
  refine lin_val (i := 14) (v := .bool false) rfl rfl (by rfl) (by intro x hx; go_simp; (first | done | exact rfl)) ?_
  simp only [List.set_cons_succ, List.set_cons_zero]
  refine lin_val (i := 15) (v := .agg #[.int .u64 (tn ((fromP x0.A.lo x0.A.hi).lo)), .int .u64 (tn ((fromP x0.A.lo x0.A.hi).hi))]) rfl rfl (by rfl) (by intro x hx; have f0 := hx.load 1 0 rfl rfl; have f1 := hx.load 1 1 rfl rfl; go_simp; (first | done | exact rfl)) ?_
  simp only [List.set_cons_succ, List.set_cons_zero]
  refine lin_val (i := 16) (v := .agg #[.int .u64 (tn ((fromP x0.B.lo x0.B.hi).lo)), .int .u64 (tn ((fromP x0.B.lo x0.B.hi).hi))]) rfl rfl (by rfl) (by intro x hx; have f0 := hx.load 2 0 rfl rfl; have f1 := hx.load 2 1 rfl rfl; go_simp; (first | done | exact rfl)) ?_
  simp only [List.set_cons_succ, List.set_cons_zero]
  refine lin_call (i := 17) (f := 27) (args := #[.agg #[.int .u64 (tn ((fromP x0.A.lo x0.A.hi).lo)), .int .u64 (tn ((fromP x0.A.lo x0.A.hi).hi))], .agg #[.int .u64 (tn ((fromP x0.B.lo x0.B.hi).lo)), .int .u64 (tn ((fromP x0.B.lo x0.B.hi).hi))]]) (v := .agg #[.int .u64 (tn ((span_Sub (fromP x0.A.lo x0.A.hi) (fromP x0.B.lo x0.B.hi)).lo)), .int .u64 (tn ((span_Sub (fromP x0.A.lo x0.A.hi) (fromP x0.B.lo x0.B.hi)).hi))]) (st_ups _ _) rfl rfl (by rfl) (fun x hx => by kernel_rfl) (by intro x hx; exact span_Sub_any (fromP x0.A.lo x0.A.hi) (fromP x0.B.lo x0.B.hi) _) ?_
  simp only [List.set_cons_succ, List.set_cons_zero]
  refine lin_val (i := 18) (v := .int .u64 (tn (insideV (fromP x0.A.lo x0.A.hi) x0.V))) rfl rfl (by rfl) (by intro x hx; go_simp; (first | done | exact rfl)) ?_
  simp only [List.set_cons_succ, List.set_cons_zero]
  refine lin_val (i := 19) (v := .int .u64 (tn (insideV (fromP x0.B.lo x0.B.hi) x0.W))) rfl rfl (by rfl) (by intro x hx; go_simp; (first | done | exact rfl)) ?_
  simp only [List.set_cons_succ, List.set_cons_zero]
  refine lin_val (i := 20) (v := .int .u64 (tn ((insideV (fromP x0.A.lo x0.A.hi) x0.V) - (insideV (fromP x0.B.lo x0.B.hi) x0.W)))) rfl rfl (by rfl) (by intro x hx; go_simp; (first | done | exact subUT (insideV (fromP x0.A.lo x0.A.hi) x0.V) (insideV (fromP x0.B.lo x0.B.hi) x0.W) | exact congrArg _ (subUT (insideV (fromP x0.A.lo x0.A.hi) x0.V) (insideV (fromP x0.B.lo x0.B.hi) x0.W)) | (rw [subUT (insideV (fromP x0.A.lo x0.A.hi) x0.V) (insideV (fromP x0.B.lo x0.B.hi) x0.W)]; done) | (rw [subUT (insideV (fromP x0.A.lo x0.A.hi) x0.V) (insideV (fromP x0.B.lo x0.B.hi) x0.W)]; rfl))) ?_
  simp only [List.set_cons_succ, List.set_cons_zero]
  refine lin_call (i := 21) (f := 19) (args := #[.agg #[.int .u64 (tn ((span_Sub (fromP x0.A.lo x0.A.hi) (fromP x0.B.lo x0.B.hi)).lo)), .int .u64 (tn ((span_Sub (fromP x0.A.lo x0.A.hi) (fromP x0.B.lo x0.B.hi)).hi))], .int .u64 (tn ((insideV (fromP x0.A.lo x0.A.hi) x0.V) - (insideV (fromP x0.B.lo x0.B.hi) x0.W)))]) (v := .bool true) (st_ups _ _) rfl rfl (by rfl) (fun x hx => by kernel_rfl) (by intro x hx; exact calls_is (span_In_any (span_Sub (fromP x0.A.lo x0.A.hi) (fromP x0.B.lo x0.B.hi)) ((insideV (fromP x0.A.lo x0.A.hi) x0.V) - (insideV (fromP x0.B.lo x0.B.hi) x0.W)) _) (congrArg Value.bool (in_of (sub_in' HA.out HB.out)))) ?_
  simp only [List.set_cons_succ, List.set_cons_zero]
  refine lin_val (i := 22) (v := .bool false) rfl rfl (by rfl) (by intro x hx; go_simp; (first | done | exact rfl)) ?_
  simp only [List.set_cons_succ, List.set_cons_zero]
  refine lin_val (i := 23) (v := .bool false) rfl rfl (by rfl) (by intro x hx; go_simp; (first | done | exact rfl)) ?_
  simp only [List.set_cons_succ, List.set_cons_zero]
  refine lin_val (i := 24) (v := .bool false) rfl rfl (by rfl) (by intro x hx; go_simp; (first | done | exact rfl)) ?_
  simp only [List.set_cons_succ, List.set_cons_zero]
  refine lin_val (i := 25) (v := .agg #[.int .u64 (tn ((fromP x0.A.lo x0.A.hi).lo)), .int .u64 (tn ((fromP x0.A.lo x0.A.hi).hi))]) rfl rfl (by rfl) (by intro x hx; have f0 := hx.load 1 0 rfl rfl; have f1 := hx.load 1 1 rfl rfl; go_simp; (first | done | exact rfl)) ?_
  simp only [List.set_cons_succ, List.set_cons_zero]
  refine lin_val (i := 26) (v := .agg #[.int .u64 (tn ((fromP x0.B.lo x0.B.hi).lo)), .int .u64 (tn ((fromP x0.B.lo x0.B.hi).hi))]) rfl rfl (by rfl) (by intro x hx; have f0 := hx.load 2 0 rfl rfl; have f1 := hx.load 2 1 rfl rfl; go_simp; (first | done | exact rfl)) ?_
  simp only [List.set_cons_succ, List.set_cons_zero]
  refine lin_call (i := 27) (f := 29) (args := #[.agg #[.int .u64 (tn ((fromP x0.A.lo x0.A.hi).lo)), .int .u64 (tn ((fromP x0.A.lo x0.A.hi).hi))], .agg #[.int .u64 (tn ((fromP x0.B.lo x0.B.hi).lo)), .int .u64 (tn ((fromP x0.B.lo x0.B.hi).hi))]]) (v := .agg #[.int .u64 (tn ((span_Mul (fromP x0.A.lo x0.A.hi) (fromP x0.B.lo x0.B.hi)).lo)), .int .u64 (tn ((span_Mul (fromP x0.A.lo x0.A.hi) (fromP x0.B.lo x0.B.hi)).hi))]) (st_ups _ _) rfl rfl (by rfl) (fun x hx => by kernel_rfl) (by intro x hx; exact span_Mul_any (fromP x0.A.lo x0.A.hi) (fromP x0.B.lo x0.B.hi) _) ?_
  simp only [List.set_cons_succ, List.set_cons_zero]
  refine lin_val (i := 28) (v := .int .u64 (tn (insideV (fromP x0.A.lo x0.A.hi) x0.V))) rfl rfl (by rfl) (by intro x hx; go_simp; (first | done | exact rfl)) ?_
  simp only [List.set_cons_succ, List.set_cons_zero]
  refine lin_val (i := 29) (v := .int .u64 (tn (insideV (fromP x0.B.lo x0.B.hi) x0.W))) rfl rfl (by rfl) (by intro x hx; go_simp; (first | done | exact rfl)) ?_
  simp only [List.set_cons_succ, List.set_cons_zero]
  refine lin_val (i := 30) (v := .int .u64 (tn ((insideV (fromP x0.A.lo x0.A.hi) x0.V) * (insideV (fromP x0.B.lo x0.B.hi) x0.W)))) rfl rfl (by rfl) (by intro x hx; go_simp; (first | done | exact mulUT (insideV (fromP x0.A.lo x0.A.hi) x0.V) (insideV (fromP x0.B.lo x0.B.hi) x0.W) | exact congrArg _ (mulUT (insideV (fromP x0.A.lo x0.A.hi) x0.V) (insideV (fromP x0.B.lo x0.B.hi) x0.W)) | (rw [mulUT (insideV (fromP x0.A.lo x0.A.hi) x0.V) (insideV (fromP x0.B.lo x0.B.hi) x0.W)]; done) | (rw [mulUT (insideV (fromP x0.A.lo x0.A.hi) x0.V) (insideV (fromP x0.B.lo x0.B.hi) x0.W)]; rfl))) ?_
  simp only [List.set_cons_succ, List.set_cons_zero]
  refine lin_call (i := 31) (f := 19) (args := #[.agg #[.int .u64 (tn ((span_Mul (fromP x0.A.lo x0.A.hi) (fromP x0.B.lo x0.B.hi)).lo)), .int .u64 (tn ((span_Mul (fromP x0.A.lo x0.A.hi) (fromP x0.B.lo x0.B.hi)).hi))], .int .u64 (tn ((insideV (fromP x0.A.lo x0.A.hi) x0.V) * (insideV (fromP x0.B.lo x0.B.hi) x0.W)))]) (v := .bool true) (st_ups _ _) rfl rfl (by rfl) (fun x hx => by kernel_rfl) (by intro x hx; exact calls_is (span_In_any (span_Mul (fromP x0.A.lo x0.A.hi) (fromP x0.B.lo x0.B.hi)) ((insideV (fromP x0.A.lo x0.A.hi) x0.V) * (insideV (fromP x0.B.lo x0.B.hi) x0.W)) _) (congrArg Value.bool (in_of (mul_in' HA.out HB.out)))) ?_
  simp only [List.set_cons_succ, List.set_cons_zero]
  refine lin_val (i := 32) (v := .bool false) rfl rfl (by rfl) (by intro x hx; go_simp; (first | done | exact rfl)) ?_
  simp only [List.set_cons_succ, List.set_cons_zero]
  refine lin_val (i := 33) (v := .bool false) rfl rfl (by rfl) (by intro x hx; go_simp; (first | done | exact rfl)) ?_
  simp only [List.set_cons_succ, List.set_cons_zero]
  refine lin_val (i := 34) (v := .bool false) rfl rfl (by rfl) (by intro x hx; go_simp; (first | done | exact rfl)) ?_
  simp only [List.set_cons_succ, List.set_cons_zero]
  refine lin_val (i := 35) (v := .agg #[.int .u64 (tn ((fromP x0.A.lo x0.A.hi).lo)), .int .u64 (tn ((fromP x0.A.lo x0.A.hi).hi))]) rfl rfl (by rfl) (by intro x hx; have f0 := hx.load 1 0 rfl rfl; have f1 := hx.load 1 1 rfl rfl; go_simp; (first | done | exact rfl)) ?_
  simp only [List.set_cons_succ, List.set_cons_zero]
  refine lin_val (i := 36) (v := .agg #[.int .u64 (tn ((fromP x0.B.lo x0.B.hi).lo)), .int .u64 (tn ((fromP x0.B.lo x0.B.hi).hi))]) rfl rfl (by rfl) (by intro x hx; have f0 := hx.load 2 0 rfl rfl; have f1 := hx.load 2 1 rfl rfl; go_simp; (first | done | exact rfl)) ?_
  simp only [List.set_cons_succ, List.set_cons_zero]
  refine lin_call (i := 37) (f := 31) (args := #[.agg #[.int .u64 (tn ((fromP x0.A.lo x0.A.hi).lo)), .int .u64 (tn ((fromP x0.A.lo x0.A.hi).hi))], .agg #[.int .u64 (tn ((fromP x0.B.lo x0.B.hi).lo)), .int .u64 (tn ((fromP x0.B.lo x0.B.hi).hi))]]) (v := .agg #[.int .u64 (tn ((span_Div (fromP x0.A.lo x0.A.hi) (fromP x0.B.lo x0.B.hi)).lo)), .int .u64 (tn ((span_Div (fromP x0.A.lo x0.A.hi) (fromP x0.B.lo x0.B.hi)).hi))]) (st_ups _ _) rfl rfl (by rfl) (fun x hx => by kernel_rfl) (by intro x hx; exact span_Div_any (fromP x0.A.lo x0.A.hi) (fromP x0.B.lo x0.B.hi) _) ?_
  simp only [List.set_cons_succ, List.set_cons_zero]
  refine lin_val (i := 38) (v := .int .u64 (tn (insideV (fromP x0.A.lo x0.A.hi) x0.V))) rfl rfl (by rfl) (by intro x hx; go_simp; (first | done | exact rfl)) ?_
  simp only [List.set_cons_succ, List.set_cons_zero]
  refine lin_val (i := 39) (v := .int .u64 (tn (insideV (fromP x0.B.lo x0.B.hi) x0.W))) rfl rfl (by rfl) (by intro x hx; go_simp; (first | done | exact rfl)) ?_
  simp only [List.set_cons_succ, List.set_cons_zero]
  refine lin_call (i := 40) (f := 81) (args := #[.int .i64 (ti (48#64)), .int .u64 (tn (insideV (fromP x0.A.lo x0.A.hi) x0.V)), .int .u64 (tn (insideV (fromP x0.B.lo x0.B.hi) x0.W))]) (v := .int .u64 (tn (aluV 64 (ti 48#64) (insideV (fromP x0.A.lo x0.A.hi) x0.V) (insideV (fromP x0.B.lo x0.B.hi) x0.W)))) (st_ups _ _) rfl rfl (by rfl) (fun x hx => by kernel_rfl) (by intro x hx; exact law_made_any 48#64 (insideV (fromP x0.A.lo x0.A.hi) x0.V) (insideV (fromP x0.B.lo x0.B.hi) x0.W) _) ?_
  simp only [List.set_cons_succ, List.set_cons_zero]
  refine lin_call (i := 41) (f := 19) (args := #[.agg #[.int .u64 (tn ((span_Div (fromP x0.A.lo x0.A.hi) (fromP x0.B.lo x0.B.hi)).lo)), .int .u64 (tn ((span_Div (fromP x0.A.lo x0.A.hi) (fromP x0.B.lo x0.B.hi)).hi))], .int .u64 (tn (aluV 64 (ti 48#64) (insideV (fromP x0.A.lo x0.A.hi) x0.V) (insideV (fromP x0.B.lo x0.B.hi) x0.W)))]) (v := .bool true) (st_ups _ _) rfl rfl (by rfl) (fun x hx => by kernel_rfl) (by intro x hx; exact calls_is (span_In_any (span_Div (fromP x0.A.lo x0.A.hi) (fromP x0.B.lo x0.B.hi)) (aluV 64 (ti 48#64) (insideV (fromP x0.A.lo x0.A.hi) x0.V) (insideV (fromP x0.B.lo x0.B.hi) x0.W)) _) (congrArg Value.bool (in_of (div_in' HA.out HB.out)))) ?_
  simp only [List.set_cons_succ, List.set_cons_zero]
  refine lin_val (i := 42) (v := .bool false) rfl rfl (by rfl) (by intro x hx; go_simp; (first | done | exact rfl)) ?_
  simp only [List.set_cons_succ, List.set_cons_zero]
  refine lin_val (i := 43) (v := .bool false) rfl rfl (by rfl) (by intro x hx; go_simp; (first | done | exact rfl)) ?_
  simp only [List.set_cons_succ, List.set_cons_zero]
  refine lin_val (i := 44) (v := .bool false) rfl rfl (by rfl) (by intro x hx; go_simp; (first | done | exact rfl)) ?_
  simp only [List.set_cons_succ, List.set_cons_zero]
  refine lin_val (i := 45) (v := .agg #[.int .u64 (tn ((fromP x0.A.lo x0.A.hi).lo)), .int .u64 (tn ((fromP x0.A.lo x0.A.hi).hi))]) rfl rfl (by rfl) (by intro x hx; have f0 := hx.load 1 0 rfl rfl; have f1 := hx.load 1 1 rfl rfl; go_simp; (first | done | exact rfl)) ?_
  simp only [List.set_cons_succ, List.set_cons_zero]
  refine lin_val (i := 46) (v := .agg #[.int .u64 (tn ((fromP x0.B.lo x0.B.hi).lo)), .int .u64 (tn ((fromP x0.B.lo x0.B.hi).hi))]) rfl rfl (by rfl) (by intro x hx; have f0 := hx.load 2 0 rfl rfl; have f1 := hx.load 2 1 rfl rfl; go_simp; (first | done | exact rfl)) ?_
  simp only [List.set_cons_succ, List.set_cons_zero]
  refine lin_call (i := 47) (f := 33) (args := #[.agg #[.int .u64 (tn ((fromP x0.A.lo x0.A.hi).lo)), .int .u64 (tn ((fromP x0.A.lo x0.A.hi).hi))], .agg #[.int .u64 (tn ((fromP x0.B.lo x0.B.hi).lo)), .int .u64 (tn ((fromP x0.B.lo x0.B.hi).hi))]]) (v := .agg #[.int .u64 (tn ((span_Mod (fromP x0.A.lo x0.A.hi) (fromP x0.B.lo x0.B.hi)).lo)), .int .u64 (tn ((span_Mod (fromP x0.A.lo x0.A.hi) (fromP x0.B.lo x0.B.hi)).hi))]) (st_ups _ _) rfl rfl (by rfl) (fun x hx => by kernel_rfl) (by intro x hx; exact span_Mod_any (fromP x0.A.lo x0.A.hi) (fromP x0.B.lo x0.B.hi) _) ?_
  simp only [List.set_cons_succ, List.set_cons_zero]
  refine lin_val (i := 48) (v := .int .u64 (tn (insideV (fromP x0.A.lo x0.A.hi) x0.V))) rfl rfl (by rfl) (by intro x hx; go_simp; (first | done | exact rfl)) ?_
  simp only [List.set_cons_succ, List.set_cons_zero]
  refine lin_val (i := 49) (v := .int .u64 (tn (insideV (fromP x0.B.lo x0.B.hi) x0.W))) rfl rfl (by rfl) (by intro x hx; go_simp; (first | done | exact rfl)) ?_
  simp only [List.set_cons_succ, List.set_cons_zero]
  refine lin_call (i := 50) (f := 81) (args := #[.int .i64 (ti (144#64)), .int .u64 (tn (insideV (fromP x0.A.lo x0.A.hi) x0.V)), .int .u64 (tn (insideV (fromP x0.B.lo x0.B.hi) x0.W))]) (v := .int .u64 (tn (aluV 64 (ti 144#64) (insideV (fromP x0.A.lo x0.A.hi) x0.V) (insideV (fromP x0.B.lo x0.B.hi) x0.W)))) (st_ups _ _) rfl rfl (by rfl) (fun x hx => by kernel_rfl) (by intro x hx; exact law_made_any 144#64 (insideV (fromP x0.A.lo x0.A.hi) x0.V) (insideV (fromP x0.B.lo x0.B.hi) x0.W) _) ?_
  simp only [List.set_cons_succ, List.set_cons_zero]
  refine lin_call (i := 51) (f := 19) (args := #[.agg #[.int .u64 (tn ((span_Mod (fromP x0.A.lo x0.A.hi) (fromP x0.B.lo x0.B.hi)).lo)), .int .u64 (tn ((span_Mod (fromP x0.A.lo x0.A.hi) (fromP x0.B.lo x0.B.hi)).hi))], .int .u64 (tn (aluV 64 (ti 144#64) (insideV (fromP x0.A.lo x0.A.hi) x0.V) (insideV (fromP x0.B.lo x0.B.hi) x0.W)))]) (v := .bool true) (st_ups _ _) rfl rfl (by rfl) (fun x hx => by kernel_rfl) (by intro x hx; exact calls_is (span_In_any (span_Mod (fromP x0.A.lo x0.A.hi) (fromP x0.B.lo x0.B.hi)) (aluV 64 (ti 144#64) (insideV (fromP x0.A.lo x0.A.hi) x0.V) (insideV (fromP x0.B.lo x0.B.hi) x0.W)) _) (congrArg Value.bool (in_of (mod_in' HA.out HB.out)))) ?_
  simp only [List.set_cons_succ, List.set_cons_zero]
  refine lin_val (i := 52) (v := .bool false) rfl rfl (by rfl) (by intro x hx; go_simp; (first | done | exact rfl)) ?_
  simp only [List.set_cons_succ, List.set_cons_zero]
  refine lin_val (i := 53) (v := .bool false) rfl rfl (by rfl) (by intro x hx; go_simp; (first | done | exact rfl)) ?_
  simp only [List.set_cons_succ, List.set_cons_zero]
  refine lin_done ?_
  intro W6 hx
  replace HS := hid hx
  clear hx
  -- region 8
  go_upto_region 8 with fail
  refine lin_begin (St w [⟨w.heap.size, [some (.int .u64 (tn (x0.A.lo))), some (.int .u64 (tn (x0.A.hi))), some (.int .u64 (tn (x0.B.lo))), some (.int .u64 (tn (x0.B.hi))), some (.int .u64 (tn (x0.V))), some (.int .u64 (tn (x0.W))), some (.int .i64 (ti (x0.N)))], 60⟩, ⟨k1, [some (.int .u64 (tn ((fromP x0.A.lo x0.A.hi).lo))), some (.int .u64 (tn ((fromP x0.A.lo x0.A.hi).hi)))], 24⟩, ⟨k2, [some (.int .u64 (tn ((fromP x0.B.lo x0.B.hi).lo))), some (.int .u64 (tn ((fromP x0.B.lo x0.B.hi).hi)))], 24⟩]) rfl HS.out ?_
  refine lin_val (i := 0) (v := .agg #[.int .u64 (tn ((fromP x0.A.lo x0.A.hi).lo)), .int .u64 (tn ((fromP x0.A.lo x0.A.hi).hi))]) rfl rfl (by rfl) (by intro x hx; have f0 := hx.load 1 0 rfl rfl; have f1 := hx.load 1 1 rfl rfl; go_simp; (first | done | exact rfl)) ?_
  simp only [List.set_cons_succ, List.set_cons_zero]
  refine lin_val (i := 1) (v := .agg #[.int .u64 (tn ((fromP x0.B.lo x0.B.hi).lo)), .int .u64 (tn ((fromP x0.B.lo x0.B.hi).hi))]) rfl rfl (by rfl) (by intro x hx; have f0 := hx.load 2 0 rfl rfl; have f1 := hx.load 2 1 rfl rfl; go_simp; (first | done | exact rfl)) ?_
  simp only [List.set_cons_succ, List.set_cons_zero]
  refine lin_call (i := 2) (f := 35) (args := #[.agg #[.int .u64 (tn ((fromP x0.A.lo x0.A.hi).lo)), .int .u64 (tn ((fromP x0.A.lo x0.A.hi).hi))], .agg #[.int .u64 (tn ((fromP x0.B.lo x0.B.hi).lo)), .int .u64 (tn ((fromP x0.B.lo x0.B.hi).hi))]]) (v := .agg #[.int .u64 (tn (0#64)), .int .u64 (tn (minU (fromP x0.A.lo x0.A.hi).hi (fromP x0.B.lo x0.B.hi).hi))]) (st_ups _ _) rfl rfl (by rfl) (fun x hx => by kernel_rfl) (by intro x hx; exact span_And_any (fromP x0.A.lo x0.A.hi) (fromP x0.B.lo x0.B.hi) _) ?_
  simp only [List.set_cons_succ, List.set_cons_zero]
  refine lin_val (i := 3) (v := .int .u64 (tn (insideV (fromP x0.A.lo x0.A.hi) x0.V))) rfl rfl (by rfl) (by intro x hx; go_simp; (first | done | exact rfl)) ?_
  simp only [List.set_cons_succ, List.set_cons_zero]
  refine lin_val (i := 4) (v := .int .u64 (tn (insideV (fromP x0.B.lo x0.B.hi) x0.W))) rfl rfl (by rfl) (by intro x hx; go_simp; (first | done | exact rfl)) ?_
  simp only [List.set_cons_succ, List.set_cons_zero]
  refine lin_val (i := 5) (v := .int .u64 (tn ((insideV (fromP x0.A.lo x0.A.hi) x0.V) &&& (insideV (fromP x0.B.lo x0.B.hi) x0.W)))) rfl rfl (by rfl) (by intro x hx; go_simp; (first | done | exact andUT (insideV (fromP x0.A.lo x0.A.hi) x0.V) (insideV (fromP x0.B.lo x0.B.hi) x0.W) | exact congrArg _ (andUT (insideV (fromP x0.A.lo x0.A.hi) x0.V) (insideV (fromP x0.B.lo x0.B.hi) x0.W)) | (rw [andUT (insideV (fromP x0.A.lo x0.A.hi) x0.V) (insideV (fromP x0.B.lo x0.B.hi) x0.W)]; done) | (rw [andUT (insideV (fromP x0.A.lo x0.A.hi) x0.V) (insideV (fromP x0.B.lo x0.B.hi) x0.W)]; rfl))) ?_
  simp only [List.set_cons_succ, List.set_cons_zero]
  refine lin_call (i := 6) (f := 19) (args := #[.agg #[.int .u64 (tn (0#64)), .int .u64 (tn (minU (fromP x0.A.lo x0.A.hi).hi (fromP x0.B.lo x0.B.hi).hi))], .int .u64 (tn ((insideV (fromP x0.A.lo x0.A.hi) x0.V) &&& (insideV (fromP x0.B.lo x0.B.hi) x0.W)))]) (v := .bool true) (st_ups _ _) rfl rfl (by rfl) (fun x hx => by kernel_rfl) (by intro x hx; exact calls_is (span_In_any (P.mk 0#64 (minU (fromP x0.A.lo x0.A.hi).hi (fromP x0.B.lo x0.B.hi).hi)) ((insideV (fromP x0.A.lo x0.A.hi) x0.V) &&& (insideV (fromP x0.B.lo x0.B.hi) x0.W)) _) (congrArg Value.bool (in_of (and_in' HA.out HB.out)))) ?_
  simp only [List.set_cons_succ, List.set_cons_zero]
  refine lin_val (i := 7) (v := .bool false) rfl rfl (by rfl) (by intro x hx; go_simp; (first | done | exact rfl)) ?_
  simp only [List.set_cons_succ, List.set_cons_zero]
  refine lin_val (i := 8) (v := .bool false) rfl rfl (by rfl) (by intro x hx; go_simp; (first | done | exact rfl)) ?_
  simp only [List.set_cons_succ, List.set_cons_zero]
  refine lin_val (i := 9) (v := .agg #[.int .u64 (tn ((fromP x0.A.lo x0.A.hi).lo)), .int .u64 (tn ((fromP x0.A.lo x0.A.hi).hi))]) rfl rfl (by rfl) (by intro x hx; have f0 := hx.load 1 0 rfl rfl; have f1 := hx.load 1 1 rfl rfl; go_simp; (first | done | exact rfl)) ?_
  simp only [List.set_cons_succ, List.set_cons_zero]
  refine lin_val (i := 10) (v := .agg #[.int .u64 (tn ((fromP x0.B.lo x0.B.hi).lo)), .int .u64 (tn ((fromP x0.B.lo x0.B.hi).hi))]) rfl rfl (by rfl) (by intro x hx; have f0 := hx.load 2 0 rfl rfl; have f1 := hx.load 2 1 rfl rfl; go_simp; (first | done | exact rfl)) ?_
  simp only [List.set_cons_succ, List.set_cons_zero]
  refine lin_call (i := 11) (f := 37) (args := #[.agg #[.int .u64 (tn ((fromP x0.A.lo x0.A.hi).lo)), .int .u64 (tn ((fromP x0.A.lo x0.A.hi).hi))], .agg #[.int .u64 (tn ((fromP x0.B.lo x0.B.hi).lo)), .int .u64 (tn ((fromP x0.B.lo x0.B.hi).hi))]]) (v := .agg #[.int .u64 (tn (maxU (fromP x0.A.lo x0.A.hi).lo (fromP x0.B.lo x0.B.hi).lo)), .int .u64 (tn (onesV (maxU (fromP x0.A.lo x0.A.hi).hi (fromP x0.B.lo x0.B.hi).hi)))]) (st_ups _ _) rfl rfl (by rfl) (fun x hx => by kernel_rfl) (by intro x hx; exact span_Or_any (fromP x0.A.lo x0.A.hi) (fromP x0.B.lo x0.B.hi) _) ?_
  simp only [List.set_cons_succ, List.set_cons_zero]
  refine lin_val (i := 12) (v := .int .u64 (tn (insideV (fromP x0.A.lo x0.A.hi) x0.V))) rfl rfl (by rfl) (by intro x hx; go_simp; (first | done | exact rfl)) ?_
  simp only [List.set_cons_succ, List.set_cons_zero]
  refine lin_val (i := 13) (v := .int .u64 (tn (insideV (fromP x0.B.lo x0.B.hi) x0.W))) rfl rfl (by rfl) (by intro x hx; go_simp; (first | done | exact rfl)) ?_
  simp only [List.set_cons_succ, List.set_cons_zero]
  refine lin_val (i := 14) (v := .int .u64 (tn ((insideV (fromP x0.A.lo x0.A.hi) x0.V) ||| (insideV (fromP x0.B.lo x0.B.hi) x0.W)))) rfl rfl (by rfl) (by intro x hx; go_simp; (first | done | exact orUT (insideV (fromP x0.A.lo x0.A.hi) x0.V) (insideV (fromP x0.B.lo x0.B.hi) x0.W) | exact congrArg _ (orUT (insideV (fromP x0.A.lo x0.A.hi) x0.V) (insideV (fromP x0.B.lo x0.B.hi) x0.W)) | (rw [orUT (insideV (fromP x0.A.lo x0.A.hi) x0.V) (insideV (fromP x0.B.lo x0.B.hi) x0.W)]; done) | (rw [orUT (insideV (fromP x0.A.lo x0.A.hi) x0.V) (insideV (fromP x0.B.lo x0.B.hi) x0.W)]; rfl))) ?_
  simp only [List.set_cons_succ, List.set_cons_zero]
  refine lin_call (i := 15) (f := 19) (args := #[.agg #[.int .u64 (tn (maxU (fromP x0.A.lo x0.A.hi).lo (fromP x0.B.lo x0.B.hi).lo)), .int .u64 (tn (onesV (maxU (fromP x0.A.lo x0.A.hi).hi (fromP x0.B.lo x0.B.hi).hi)))], .int .u64 (tn ((insideV (fromP x0.A.lo x0.A.hi) x0.V) ||| (insideV (fromP x0.B.lo x0.B.hi) x0.W)))]) (v := .bool true) (st_ups _ _) rfl rfl (by rfl) (fun x hx => by kernel_rfl) (by intro x hx; exact calls_is (span_In_any (P.mk (maxU (fromP x0.A.lo x0.A.hi).lo (fromP x0.B.lo x0.B.hi).lo) (onesV (maxU (fromP x0.A.lo x0.A.hi).hi (fromP x0.B.lo x0.B.hi).hi))) ((insideV (fromP x0.A.lo x0.A.hi) x0.V) ||| (insideV (fromP x0.B.lo x0.B.hi) x0.W)) _) (congrArg Value.bool (in_of (or_in' HA.out HB.out)))) ?_
  simp only [List.set_cons_succ, List.set_cons_zero]
  refine lin_val (i := 16) (v := .bool false) rfl rfl (by rfl) (by intro x hx; go_simp; (first | done | exact rfl)) ?_
  simp only [List.set_cons_succ, List.set_cons_zero]
  refine lin_val (i := 17) (v := .bool false) rfl rfl (by rfl) (by intro x hx; go_simp; (first | done | exact rfl)) ?_
  simp only [List.set_cons_succ, List.set_cons_zero]
  refine lin_val (i := 18) (v := .bool false) rfl rfl (by rfl) (by intro x hx; go_simp; (first | done | exact rfl)) ?_
  simp only [List.set_cons_succ, List.set_cons_zero]
  refine lin_val (i := 19) (v := .agg #[.int .u64 (tn ((fromP x0.A.lo x0.A.hi).lo)), .int .u64 (tn ((fromP x0.A.lo x0.A.hi).hi))]) rfl rfl (by rfl) (by intro x hx; have f0 := hx.load 1 0 rfl rfl; have f1 := hx.load 1 1 rfl rfl; go_simp; (first | done | exact rfl)) ?_
  simp only [List.set_cons_succ, List.set_cons_zero]
  refine lin_val (i := 20) (v := .agg #[.int .u64 (tn ((fromP x0.B.lo x0.B.hi).lo)), .int .u64 (tn ((fromP x0.B.lo x0.B.hi).hi))]) rfl rfl (by rfl) (by intro x hx; have f0 := hx.load 2 0 rfl rfl; have f1 := hx.load 2 1 rfl rfl; go_simp; (first | done | exact rfl)) ?_
  simp only [List.set_cons_succ, List.set_cons_zero]
  refine lin_call (i := 21) (f := 39) (args := #[.agg #[.int .u64 (tn ((fromP x0.A.lo x0.A.hi).lo)), .int .u64 (tn ((fromP x0.A.lo x0.A.hi).hi))], .agg #[.int .u64 (tn ((fromP x0.B.lo x0.B.hi).lo)), .int .u64 (tn ((fromP x0.B.lo x0.B.hi).hi))]]) (v := .agg #[.int .u64 (tn (0#64)), .int .u64 (tn (onesV (maxU (fromP x0.A.lo x0.A.hi).hi (fromP x0.B.lo x0.B.hi).hi)))]) (st_ups _ _) rfl rfl (by rfl) (fun x hx => by kernel_rfl) (by intro x hx; exact span_Xor_any (fromP x0.A.lo x0.A.hi) (fromP x0.B.lo x0.B.hi) _) ?_
  simp only [List.set_cons_succ, List.set_cons_zero]
  refine lin_val (i := 22) (v := .int .u64 (tn (insideV (fromP x0.A.lo x0.A.hi) x0.V))) rfl rfl (by rfl) (by intro x hx; go_simp; (first | done | exact rfl)) ?_
  simp only [List.set_cons_succ, List.set_cons_zero]
  refine lin_val (i := 23) (v := .int .u64 (tn (insideV (fromP x0.B.lo x0.B.hi) x0.W))) rfl rfl (by rfl) (by intro x hx; go_simp; (first | done | exact rfl)) ?_
  simp only [List.set_cons_succ, List.set_cons_zero]
  refine lin_val (i := 24) (v := .int .u64 (tn ((insideV (fromP x0.A.lo x0.A.hi) x0.V) ^^^ (insideV (fromP x0.B.lo x0.B.hi) x0.W)))) rfl rfl (by rfl) (by intro x hx; go_simp; (first | done | exact xorUT (insideV (fromP x0.A.lo x0.A.hi) x0.V) (insideV (fromP x0.B.lo x0.B.hi) x0.W) | exact congrArg _ (xorUT (insideV (fromP x0.A.lo x0.A.hi) x0.V) (insideV (fromP x0.B.lo x0.B.hi) x0.W)) | (rw [xorUT (insideV (fromP x0.A.lo x0.A.hi) x0.V) (insideV (fromP x0.B.lo x0.B.hi) x0.W)]; done) | (rw [xorUT (insideV (fromP x0.A.lo x0.A.hi) x0.V) (insideV (fromP x0.B.lo x0.B.hi) x0.W)]; rfl))) ?_
  simp only [List.set_cons_succ, List.set_cons_zero]
  refine lin_call (i := 25) (f := 19) (args := #[.agg #[.int .u64 (tn (0#64)), .int .u64 (tn (onesV (maxU (fromP x0.A.lo x0.A.hi).hi (fromP x0.B.lo x0.B.hi).hi)))], .int .u64 (tn ((insideV (fromP x0.A.lo x0.A.hi) x0.V) ^^^ (insideV (fromP x0.B.lo x0.B.hi) x0.W)))]) (v := .bool true) (st_ups _ _) rfl rfl (by rfl) (fun x hx => by kernel_rfl) (by intro x hx; exact calls_is (span_In_any (P.mk 0#64 (onesV (maxU (fromP x0.A.lo x0.A.hi).hi (fromP x0.B.lo x0.B.hi).hi))) ((insideV (fromP x0.A.lo x0.A.hi) x0.V) ^^^ (insideV (fromP x0.B.lo x0.B.hi) x0.W)) _) (congrArg Value.bool (in_of (xor_in' HA.out HB.out)))) ?_
  simp only [List.set_cons_succ, List.set_cons_zero]
  refine lin_val (i := 26) (v := .bool false) rfl rfl (by rfl) (by intro x hx; go_simp; (first | done | exact rfl)) ?_
  simp only [List.set_cons_succ, List.set_cons_zero]
  refine lin_val (i := 27) (v := .bool false) rfl rfl (by rfl) (by intro x hx; go_simp; (first | done | exact rfl)) ?_
  simp only [List.set_cons_succ, List.set_cons_zero]
  refine lin_val (i := 28) (v := .bool false) rfl rfl (by rfl) (by intro x hx; go_simp; (first | done | exact rfl)) ?_
  simp only [List.set_cons_succ, List.set_cons_zero]
  refine lin_val (i := 29) (v := .agg #[.int .u64 (tn ((fromP x0.A.lo x0.A.hi).lo)), .int .u64 (tn ((fromP x0.A.lo x0.A.hi).hi))]) rfl rfl (by rfl) (by intro x hx; have f0 := hx.load 1 0 rfl rfl; have f1 := hx.load 1 1 rfl rfl; go_simp; (first | done | exact rfl)) ?_
  simp only [List.set_cons_succ, List.set_cons_zero]
  refine lin_val (i := 30) (v := .pointer (some ⟨w.heap.size, 6, none⟩)) rfl rfl (by rfl) (by intro x hx; go_simp; (first | done | exact rfl)) ?_
  simp only [List.set_cons_succ, List.set_cons_zero]
  refine lin_val (i := 31) (v := .int .i64 (ti (x0.N))) rfl rfl (by rfl) (by intro x hx; have f0 := hx.load 0 6 rfl rfl; go_simp; (first | done | exact rfl)) ?_
  simp only [List.set_cons_succ, List.set_cons_zero]
  refine lin_call (i := 32) (f := 41) (args := #[.agg #[.int .u64 (tn ((fromP x0.A.lo x0.A.hi).lo)), .int .u64 (tn ((fromP x0.A.lo x0.A.hi).hi))], .int .i64 (ti (x0.N))]) (v := .agg #[.int .u64 (tn ((span_Mul (fromP x0.A.lo x0.A.hi) (P.mk (1#64 <<< (x0.N % 64#64).toNat) (1#64 <<< (x0.N % 64#64).toNat))).lo)), .int .u64 (tn ((span_Mul (fromP x0.A.lo x0.A.hi) (P.mk (1#64 <<< (x0.N % 64#64).toNat) (1#64 <<< (x0.N % 64#64).toNat))).hi))]) (st_ups _ _) rfl rfl (by rfl) (fun x hx => by kernel_rfl) (by intro x hx; exact span_Lsh_any (fromP x0.A.lo x0.A.hi) x0.N _) ?_
  simp only [List.set_cons_succ, List.set_cons_zero]
  refine lin_val (i := 33) (v := .int .u64 (tn (insideV (fromP x0.A.lo x0.A.hi) x0.V))) rfl rfl (by rfl) (by intro x hx; go_simp; (first | done | exact rfl)) ?_
  simp only [List.set_cons_succ, List.set_cons_zero]
  refine lin_val (i := 34) (v := .int .u64 (tn (x0.N % 64#64))) rfl rfl (by rfl) (by intro x hx; go_simp; (first | done | exact rfl)) ?_
  simp only [List.set_cons_succ, List.set_cons_zero]
  refine lin_val (i := 35) (v := .int .u64 (tn ((insideV (fromP x0.A.lo x0.A.hi) x0.V) <<< (x0.N % 64#64).toNat))) rfl rfl (by rfl) (by intro x hx; have hy := tn_lo (x0.N % 64#64); go_simp; (first | done | exact shl1U (x0.N % 64#64) hy | exact shlUUr (insideV (fromP x0.A.lo x0.A.hi) x0.V) (x0.N % 64#64) hy | exact shlUU (insideV (fromP x0.A.lo x0.A.hi) x0.V) (x0.N % 64#64) hy | exact congrArg _ (shlUU (insideV (fromP x0.A.lo x0.A.hi) x0.V) (x0.N % 64#64) hy) | (rw [shlUU (insideV (fromP x0.A.lo x0.A.hi) x0.V) (x0.N % 64#64) hy]; done) | (rw [shlUU (insideV (fromP x0.A.lo x0.A.hi) x0.V) (x0.N % 64#64) hy]; rfl))) ?_
  simp only [List.set_cons_succ, List.set_cons_zero]
  refine lin_call (i := 36) (f := 19) (args := #[.agg #[.int .u64 (tn ((span_Mul (fromP x0.A.lo x0.A.hi) (P.mk (1#64 <<< (x0.N % 64#64).toNat) (1#64 <<< (x0.N % 64#64).toNat))).lo)), .int .u64 (tn ((span_Mul (fromP x0.A.lo x0.A.hi) (P.mk (1#64 <<< (x0.N % 64#64).toNat) (1#64 <<< (x0.N % 64#64).toNat))).hi))], .int .u64 (tn ((insideV (fromP x0.A.lo x0.A.hi) x0.V) <<< (x0.N % 64#64).toNat))]) (v := .bool true) (st_ups _ _) rfl rfl (by rfl) (fun x hx => by kernel_rfl) (by intro x hx; exact calls_is (span_In_any (span_Mul (fromP x0.A.lo x0.A.hi) (P.mk (1#64 <<< (x0.N % 64#64).toNat) (1#64 <<< (x0.N % 64#64).toNat))) ((insideV (fromP x0.A.lo x0.A.hi) x0.V) <<< (x0.N % 64#64).toNat) _) (congrArg Value.bool (in_of (lsh_in' _ HA.out)))) ?_
  simp only [List.set_cons_succ, List.set_cons_zero]
  refine lin_val (i := 37) (v := .bool false) rfl rfl (by rfl) (by intro x hx; go_simp; (first | done | exact rfl)) ?_
  simp only [List.set_cons_succ, List.set_cons_zero]
  refine lin_val (i := 38) (v := .bool false) rfl rfl (by rfl) (by intro x hx; go_simp; (first | done | exact rfl)) ?_
  simp only [List.set_cons_succ, List.set_cons_zero]
  refine lin_val (i := 39) (v := .bool false) rfl rfl (by rfl) (by intro x hx; go_simp; (first | done | exact rfl)) ?_
  simp only [List.set_cons_succ, List.set_cons_zero]
  refine lin_val (i := 40) (v := .agg #[.int .u64 (tn ((fromP x0.A.lo x0.A.hi).lo)), .int .u64 (tn ((fromP x0.A.lo x0.A.hi).hi))]) rfl rfl (by rfl) (by intro x hx; have f0 := hx.load 1 0 rfl rfl; have f1 := hx.load 1 1 rfl rfl; go_simp; (first | done | exact rfl)) ?_
  simp only [List.set_cons_succ, List.set_cons_zero]
  refine lin_val (i := 41) (v := .pointer (some ⟨w.heap.size, 6, none⟩)) rfl rfl (by rfl) (by intro x hx; go_simp; (first | done | exact rfl)) ?_
  simp only [List.set_cons_succ, List.set_cons_zero]
  refine lin_val (i := 42) (v := .int .i64 (ti (x0.N))) rfl rfl (by rfl) (by intro x hx; have f0 := hx.load 0 6 rfl rfl; go_simp; (first | done | exact rfl)) ?_
  simp only [List.set_cons_succ, List.set_cons_zero]
  refine lin_call (i := 43) (f := 43) (args := #[.agg #[.int .u64 (tn ((fromP x0.A.lo x0.A.hi).lo)), .int .u64 (tn ((fromP x0.A.lo x0.A.hi).hi))], .int .i64 (ti (x0.N))]) (v := .agg #[.int .u64 (tn ((fromP x0.A.lo x0.A.hi).lo >>> (x0.N % 64#64).toNat)), .int .u64 (tn ((fromP x0.A.lo x0.A.hi).hi >>> (x0.N % 64#64).toNat))]) (st_ups _ _) rfl rfl (by rfl) (fun x hx => by kernel_rfl) (by intro x hx; exact span_Rsh_any (fromP x0.A.lo x0.A.hi) x0.N _) ?_
  simp only [List.set_cons_succ, List.set_cons_zero]
  refine lin_val (i := 44) (v := .int .u64 (tn (insideV (fromP x0.A.lo x0.A.hi) x0.V))) rfl rfl (by rfl) (by intro x hx; go_simp; (first | done | exact rfl)) ?_
  simp only [List.set_cons_succ, List.set_cons_zero]
  refine lin_val (i := 45) (v := .int .u64 (tn (x0.N % 64#64))) rfl rfl (by rfl) (by intro x hx; go_simp; (first | done | exact rfl)) ?_
  simp only [List.set_cons_succ, List.set_cons_zero]
  refine lin_val (i := 46) (v := .int .u64 (tn ((insideV (fromP x0.A.lo x0.A.hi) x0.V) >>> (x0.N % 64#64).toNat))) rfl rfl (by rfl) (by intro x hx; have hy := tn_lo (x0.N % 64#64); go_simp; (first | done | exact shrUU (insideV (fromP x0.A.lo x0.A.hi) x0.V) (x0.N % 64#64) hy | exact congrArg _ (shrUU (insideV (fromP x0.A.lo x0.A.hi) x0.V) (x0.N % 64#64) hy) | (rw [shrUU (insideV (fromP x0.A.lo x0.A.hi) x0.V) (x0.N % 64#64) hy]; done) | (rw [shrUU (insideV (fromP x0.A.lo x0.A.hi) x0.V) (x0.N % 64#64) hy]; rfl))) ?_
  simp only [List.set_cons_succ, List.set_cons_zero]
  refine lin_call (i := 47) (f := 19) (args := #[.agg #[.int .u64 (tn ((fromP x0.A.lo x0.A.hi).lo >>> (x0.N % 64#64).toNat)), .int .u64 (tn ((fromP x0.A.lo x0.A.hi).hi >>> (x0.N % 64#64).toNat))], .int .u64 (tn ((insideV (fromP x0.A.lo x0.A.hi) x0.V) >>> (x0.N % 64#64).toNat))]) (v := .bool true) (st_ups _ _) rfl rfl (by rfl) (fun x hx => by kernel_rfl) (by intro x hx; exact calls_is (span_In_any (P.mk ((fromP x0.A.lo x0.A.hi).lo >>> (x0.N % 64#64).toNat) ((fromP x0.A.lo x0.A.hi).hi >>> (x0.N % 64#64).toNat)) ((insideV (fromP x0.A.lo x0.A.hi) x0.V) >>> (x0.N % 64#64).toNat) _) (congrArg Value.bool (in_of (rsh_in' _ HA.out)))) ?_
  simp only [List.set_cons_succ, List.set_cons_zero]
  refine lin_val (i := 48) (v := .bool false) rfl rfl (by rfl) (by intro x hx; go_simp; (first | done | exact rfl)) ?_
  simp only [List.set_cons_succ, List.set_cons_zero]
  refine lin_val (i := 49) (v := .bool false) rfl rfl (by rfl) (by intro x hx; go_simp; (first | done | exact rfl)) ?_
  simp only [List.set_cons_succ, List.set_cons_zero]
  refine lin_val (i := 50) (v := .bool false) rfl rfl (by rfl) (by intro x hx; go_simp; (first | done | exact rfl)) ?_
  simp only [List.set_cons_succ, List.set_cons_zero]
  refine lin_val (i := 51) (v := .agg #[.int .u64 (tn ((fromP x0.A.lo x0.A.hi).lo)), .int .u64 (tn ((fromP x0.A.lo x0.A.hi).hi))]) rfl rfl (by rfl) (by intro x hx; have f0 := hx.load 1 0 rfl rfl; have f1 := hx.load 1 1 rfl rfl; go_simp; (first | done | exact rfl)) ?_
  simp only [List.set_cons_succ, List.set_cons_zero]
  refine lin_call (i := 52) (f := 45) (args := #[.agg #[.int .u64 (tn ((fromP x0.A.lo x0.A.hi).lo)), .int .u64 (tn ((fromP x0.A.lo x0.A.hi).hi))]]) (v := .agg #[.int .u64 (tn ((span_Cut (fromP x0.A.lo x0.A.hi)).lo)), .int .u64 (tn ((span_Cut (fromP x0.A.lo x0.A.hi)).hi))]) (st_ups _ _) rfl rfl (by rfl) (fun x hx => by kernel_rfl) (by intro x hx; exact span_Cut_any (fromP x0.A.lo x0.A.hi) _) ?_
  simp only [List.set_cons_succ, List.set_cons_zero]
  refine lin_val (i := 53) (v := .int .u64 (tn (insideV (fromP x0.A.lo x0.A.hi) x0.V))) rfl rfl (by rfl) (by intro x hx; go_simp; (first | done | exact rfl)) ?_
  simp only [List.set_cons_succ, List.set_cons_zero]
  refine lin_val (i := 54) (v := .int .u64 (tn ((insideV (fromP x0.A.lo x0.A.hi) x0.V) &&& 4294967295#64))) rfl rfl (by rfl) (by intro x hx; go_simp; (first | done | exact andUT (insideV (fromP x0.A.lo x0.A.hi) x0.V) 4294967295#64 | exact congrArg _ (andUT (insideV (fromP x0.A.lo x0.A.hi) x0.V) 4294967295#64) | (rw [andUT (insideV (fromP x0.A.lo x0.A.hi) x0.V) 4294967295#64]; done) | (rw [andUT (insideV (fromP x0.A.lo x0.A.hi) x0.V) 4294967295#64]; rfl))) ?_
  simp only [List.set_cons_succ, List.set_cons_zero]
  refine lin_call (i := 55) (f := 19) (args := #[.agg #[.int .u64 (tn ((span_Cut (fromP x0.A.lo x0.A.hi)).lo)), .int .u64 (tn ((span_Cut (fromP x0.A.lo x0.A.hi)).hi))], .int .u64 (tn ((insideV (fromP x0.A.lo x0.A.hi) x0.V) &&& 4294967295#64))]) (v := .bool true) (st_ups _ _) rfl rfl (by rfl) (fun x hx => by kernel_rfl) (by intro x hx; exact calls_is (span_In_any (span_Cut (fromP x0.A.lo x0.A.hi)) ((insideV (fromP x0.A.lo x0.A.hi) x0.V) &&& 4294967295#64) _) (congrArg Value.bool (in_of (cut_in' HA.out)))) ?_
  simp only [List.set_cons_succ, List.set_cons_zero]
  refine lin_val (i := 56) (v := .bool false) rfl rfl (by rfl) (by intro x hx; go_simp; (first | done | exact rfl)) ?_
  simp only [List.set_cons_succ, List.set_cons_zero]
  refine lin_val (i := 57) (v := .bool false) rfl rfl (by rfl) (by intro x hx; go_simp; (first | done | exact rfl)) ?_
  simp only [List.set_cons_succ, List.set_cons_zero]
  refine lin_done ?_
  intro W7 hx
  replace HS := hid hx
  clear hx
  -- region 10
  go_upto_region 10 with fail
  refine lin_begin (St w [⟨w.heap.size, [some (.int .u64 (tn (x0.A.lo))), some (.int .u64 (tn (x0.A.hi))), some (.int .u64 (tn (x0.B.lo))), some (.int .u64 (tn (x0.B.hi))), some (.int .u64 (tn (x0.V))), some (.int .u64 (tn (x0.W))), some (.int .i64 (ti (x0.N)))], 60⟩, ⟨k1, [some (.int .u64 (tn ((fromP x0.A.lo x0.A.hi).lo))), some (.int .u64 (tn ((fromP x0.A.lo x0.A.hi).hi)))], 24⟩, ⟨k2, [some (.int .u64 (tn ((fromP x0.B.lo x0.B.hi).lo))), some (.int .u64 (tn ((fromP x0.B.lo x0.B.hi).hi)))], 24⟩]) rfl HS.out ?_
  refine lin_val (i := 0) (v := .agg #[.int .u64 (tn ((fromP x0.A.lo x0.A.hi).lo)), .int .u64 (tn ((fromP x0.A.lo x0.A.hi).hi))]) rfl rfl (by rfl) (by intro x hx; have f0 := hx.load 1 0 rfl rfl; have f1 := hx.load 1 1 rfl rfl; go_simp; (first | done | exact rfl)) ?_
  simp only [List.set_cons_succ, List.set_cons_zero]
  refine lin_val (i := 1) (v := .agg #[.int .u64 (tn ((fromP x0.B.lo x0.B.hi).lo)), .int .u64 (tn ((fromP x0.B.lo x0.B.hi).hi))]) rfl rfl (by rfl) (by intro x hx; have f0 := hx.load 2 0 rfl rfl; have f1 := hx.load 2 1 rfl rfl; go_simp; (first | done | exact rfl)) ?_
  simp only [List.set_cons_succ, List.set_cons_zero]
  refine lin_call (i := 2) (f := 23) (args := #[.agg #[.int .u64 (tn ((fromP x0.A.lo x0.A.hi).lo)), .int .u64 (tn ((fromP x0.A.lo x0.A.hi).hi))], .agg #[.int .u64 (tn ((fromP x0.B.lo x0.B.hi).lo)), .int .u64 (tn ((fromP x0.B.lo x0.B.hi).hi))]]) (v := .agg #[.int .u64 (tn (minU (fromP x0.A.lo x0.A.hi).lo (fromP x0.B.lo x0.B.hi).lo)), .int .u64 (tn (maxU (fromP x0.A.lo x0.A.hi).hi (fromP x0.B.lo x0.B.hi).hi))]) (st_ups _ _) rfl rfl (by rfl) (fun x hx => by kernel_rfl) (by intro x hx; exact span_Join_any (fromP x0.A.lo x0.A.hi) (fromP x0.B.lo x0.B.hi) _) ?_
  simp only [List.set_cons_succ, List.set_cons_zero]
  refine lin_new (i := 3) rfl rfl (by rfl) [.int .u64 0, .int .u64 0] 24 (fun k => .pointer (some ⟨k, 0, none⟩)) [some (.int .u64 0), some (.int .u64 0)] (lessC_eq (lessC_eq (trivial))) (by intro x hx; go_simp; (first | done | exact rfl)) (fun k3 => ?_)
  simp only [List.set_cons_succ, List.set_cons_zero]
  refine lin_store (i := 4) (St w [⟨w.heap.size, [some (.int .u64 (tn (x0.A.lo))), some (.int .u64 (tn (x0.A.hi))), some (.int .u64 (tn (x0.B.lo))), some (.int .u64 (tn (x0.B.hi))), some (.int .u64 (tn (x0.V))), some (.int .u64 (tn (x0.W))), some (.int .i64 (ti (x0.N)))], 60⟩, ⟨k1, [some (.int .u64 (tn ((fromP x0.A.lo x0.A.hi).lo))), some (.int .u64 (tn ((fromP x0.A.lo x0.A.hi).hi)))], 24⟩, ⟨k2, [some (.int .u64 (tn ((fromP x0.B.lo x0.B.hi).lo))), some (.int .u64 (tn ((fromP x0.B.lo x0.B.hi).hi)))], 24⟩, ⟨k3, [some (.int .u64 (tn (minU (fromP x0.A.lo x0.A.hi).lo (fromP x0.B.lo x0.B.hi).lo))), some (.int .u64 (tn (maxU (fromP x0.A.lo x0.A.hi).hi (fromP x0.B.lo x0.B.hi).hi)))], 24⟩]) rfl rfl (by rfl) (fun x => ((x.setCell ⟨k3, 0, none⟩ (.int .u64 (tn (minU (fromP x0.A.lo x0.A.hi).lo (fromP x0.B.lo x0.B.hi).lo)))).setCell ⟨k3, 1, none⟩ (.int .u64 (tn (maxU (fromP x0.A.lo x0.A.hi).hi (fromP x0.B.lo x0.B.hi).hi))))) (by intro x hx; obtain ⟨u0, z0⟩ := hx.has 3 0 rfl (by simp); have q0 := hx.soft 3 0 rfl; obtain ⟨u1, z1⟩ := hx.has 3 1 rfl (by simp); have q1 := hx.soft 3 1 rfl; go_simp; (first | done | rfl)) (fun x hx => ((hx.put 3 0 (.int .u64 (tn (minU (fromP x0.A.lo x0.A.hi).lo (fromP x0.B.lo x0.B.hi).lo))) rfl).put 3 1 (.int .u64 (tn (maxU (fromP x0.A.lo x0.A.hi).hi (fromP x0.B.lo x0.B.hi).hi))) rfl)) ?_
  refine lin_done ?_
  intro W8 hx
  replace HS := hid hx
  clear hx
  -- region 11
  go_upto_region 11 with fail
  refine lin_begin (St w [⟨w.heap.size, [some (.int .u64 (tn (x0.A.lo))), some (.int .u64 (tn (x0.A.hi))), some (.int .u64 (tn (x0.B.lo))), some (.int .u64 (tn (x0.B.hi))), some (.int .u64 (tn (x0.V))), some (.int .u64 (tn (x0.W))), some (.int .i64 (ti (x0.N)))], 60⟩, ⟨k1, [some (.int .u64 (tn ((fromP x0.A.lo x0.A.hi).lo))), some (.int .u64 (tn ((fromP x0.A.lo x0.A.hi).hi)))], 24⟩, ⟨k2, [some (.int .u64 (tn ((fromP x0.B.lo x0.B.hi).lo))), some (.int .u64 (tn ((fromP x0.B.lo x0.B.hi).hi)))], 24⟩, ⟨k3, [some (.int .u64 (tn (minU (fromP x0.A.lo x0.A.hi).lo (fromP x0.B.lo x0.B.hi).lo))), some (.int .u64 (tn (maxU (fromP x0.A.lo x0.A.hi).hi (fromP x0.B.lo x0.B.hi).hi)))], 24⟩]) rfl HS.out ?_
  refine lin_val (i := 0) (v := .agg #[.int .u64 (tn ((fromP x0.A.lo x0.A.hi).lo)), .int .u64 (tn ((fromP x0.A.lo x0.A.hi).hi))]) rfl rfl (by rfl) (by intro x hx; have f0 := hx.load 1 0 rfl rfl; have f1 := hx.load 1 1 rfl rfl; go_simp; (first | done | exact rfl)) ?_
  simp only [List.set_cons_succ, List.set_cons_zero]
  refine lin_val (i := 1) (v := .agg #[.int .u64 (tn ((fromP x0.B.lo x0.B.hi).lo)), .int .u64 (tn ((fromP x0.B.lo x0.B.hi).hi))]) rfl rfl (by rfl) (by intro x hx; have f0 := hx.load 2 0 rfl rfl; have f1 := hx.load 2 1 rfl rfl; go_simp; (first | done | exact rfl)) ?_
  simp only [List.set_cons_succ, List.set_cons_zero]
  refine lin_call (i := 2) (f := 13) (args := #[.agg #[.int .u64 (tn ((fromP x0.A.lo x0.A.hi).lo)), .int .u64 (tn ((fromP x0.A.lo x0.A.hi).hi))], .agg #[.int .u64 (tn ((fromP x0.B.lo x0.B.hi).lo)), .int .u64 (tn ((fromP x0.B.lo x0.B.hi).hi))]]) (v := .tuple #[.agg #[.int .u64 (tn (((span_meet_uint64 (fromP x0.A.lo x0.A.hi) (fromP x0.B.lo x0.B.hi)).1).lo)), .int .u64 (tn (((span_meet_uint64 (fromP x0.A.lo x0.A.hi) (fromP x0.B.lo x0.B.hi)).1).hi))], .bool ((span_meet_uint64 (fromP x0.A.lo x0.A.hi) (fromP x0.B.lo x0.B.hi)).2)]) (st_ups _ _) rfl rfl (by rfl) (fun x hx => by kernel_rfl) (by intro x hx; exact span_Meet_any (fromP x0.A.lo x0.A.hi) (fromP x0.B.lo x0.B.hi) _) ?_
  simp only [List.set_cons_succ, List.set_cons_zero]
  refine lin_val (i := 3) (v := .tuple #[.agg #[.int .u64 (tn (((span_meet_uint64 (fromP x0.A.lo x0.A.hi) (fromP x0.B.lo x0.B.hi)).1).lo)), .int .u64 (tn (((span_meet_uint64 (fromP x0.A.lo x0.A.hi) (fromP x0.B.lo x0.B.hi)).1).hi))], .bool ((span_meet_uint64 (fromP x0.A.lo x0.A.hi) (fromP x0.B.lo x0.B.hi)).2)]) rfl rfl (by rfl) (by intro x hx; go_simp; (first | done | exact rfl)) ?_
  simp only [List.set_cons_succ, List.set_cons_zero]
  refine lin_val (i := 4) (v := .agg #[.int .u64 (tn (((span_meet_uint64 (fromP x0.A.lo x0.A.hi) (fromP x0.B.lo x0.B.hi)).1).lo)), .int .u64 (tn (((span_meet_uint64 (fromP x0.A.lo x0.A.hi) (fromP x0.B.lo x0.B.hi)).1).hi))]) rfl rfl (by rfl) (by intro x hx; go_simp; (first | done | exact rfl)) ?_
  simp only [List.set_cons_succ, List.set_cons_zero]
  refine lin_val (i := 5) (v := .bool ((span_meet_uint64 (fromP x0.A.lo x0.A.hi) (fromP x0.B.lo x0.B.hi)).2)) rfl rfl (by rfl) (by intro x hx; go_simp; (first | done | exact rfl)) ?_
  simp only [List.set_cons_succ, List.set_cons_zero]
  refine lin_new (i := 6) rfl rfl (by rfl) [.int .u64 0, .int .u64 0] 24 (fun k => .pointer (some ⟨k, 0, none⟩)) [some (.int .u64 0), some (.int .u64 0)] (lessC_eq (lessC_eq (trivial))) (by intro x hx; go_simp; (first | done | exact rfl)) (fun k4 => ?_)
  simp only [List.set_cons_succ, List.set_cons_zero]
  refine lin_store (i := 7) (St w [⟨w.heap.size, [some (.int .u64 (tn (x0.A.lo))), some (.int .u64 (tn (x0.A.hi))), some (.int .u64 (tn (x0.B.lo))), some (.int .u64 (tn (x0.B.hi))), some (.int .u64 (tn (x0.V))), some (.int .u64 (tn (x0.W))), some (.int .i64 (ti (x0.N)))], 60⟩, ⟨k1, [some (.int .u64 (tn ((fromP x0.A.lo x0.A.hi).lo))), some (.int .u64 (tn ((fromP x0.A.lo x0.A.hi).hi)))], 24⟩, ⟨k2, [some (.int .u64 (tn ((fromP x0.B.lo x0.B.hi).lo))), some (.int .u64 (tn ((fromP x0.B.lo x0.B.hi).hi)))], 24⟩, ⟨k3, [some (.int .u64 (tn (minU (fromP x0.A.lo x0.A.hi).lo (fromP x0.B.lo x0.B.hi).lo))), some (.int .u64 (tn (maxU (fromP x0.A.lo x0.A.hi).hi (fromP x0.B.lo x0.B.hi).hi)))], 24⟩, ⟨k4, [some (.int .u64 (tn (((span_meet_uint64 (fromP x0.A.lo x0.A.hi) (fromP x0.B.lo x0.B.hi)).1).lo))), some (.int .u64 (tn (((span_meet_uint64 (fromP x0.A.lo x0.A.hi) (fromP x0.B.lo x0.B.hi)).1).hi)))], 24⟩]) rfl rfl (by rfl) (fun x => ((x.setCell ⟨k4, 0, none⟩ (.int .u64 (tn (((span_meet_uint64 (fromP x0.A.lo x0.A.hi) (fromP x0.B.lo x0.B.hi)).1).lo)))).setCell ⟨k4, 1, none⟩ (.int .u64 (tn (((span_meet_uint64 (fromP x0.A.lo x0.A.hi) (fromP x0.B.lo x0.B.hi)).1).hi))))) (by intro x hx; obtain ⟨u0, z0⟩ := hx.has 4 0 rfl (by simp); have q0 := hx.soft 4 0 rfl; obtain ⟨u1, z1⟩ := hx.has 4 1 rfl (by simp); have q1 := hx.soft 4 1 rfl; go_simp; (first | done | rfl)) (fun x hx => ((hx.put 4 0 (.int .u64 (tn (((span_meet_uint64 (fromP x0.A.lo x0.A.hi) (fromP x0.B.lo x0.B.hi)).1).lo))) rfl).put 4 1 (.int .u64 (tn (((span_meet_uint64 (fromP x0.A.lo x0.A.hi) (fromP x0.B.lo x0.B.hi)).1).hi))) rfl)) ?_
  refine lin_val (i := 8) (v := .bool ((span_meet_uint64 (fromP x0.A.lo x0.A.hi) (fromP x0.B.lo x0.B.hi)).2)) rfl rfl (by rfl) (by intro x hx; go_simp; (first | done | exact rfl)) ?_
  simp only [List.set_cons_succ, List.set_cons_zero]
  refine lin_done ?_
  intro W9 hx
  replace HS := hid hx
  clear hx
  -- region 12
  go_upto_region 12 with fail
  refine lin_begin (St w [⟨w.heap.size, [some (.int .u64 (tn (x0.A.lo))), some (.int .u64 (tn (x0.A.hi))), some (.int .u64 (tn (x0.B.lo))), some (.int .u64 (tn (x0.B.hi))), some (.int .u64 (tn (x0.V))), some (.int .u64 (tn (x0.W))), some (.int .i64 (ti (x0.N)))], 60⟩, ⟨k1, [some (.int .u64 (tn ((fromP x0.A.lo x0.A.hi).lo))), some (.int .u64 (tn ((fromP x0.A.lo x0.A.hi).hi)))], 24⟩, ⟨k2, [some (.int .u64 (tn ((fromP x0.B.lo x0.B.hi).lo))), some (.int .u64 (tn ((fromP x0.B.lo x0.B.hi).hi)))], 24⟩, ⟨k3, [some (.int .u64 (tn (minU (fromP x0.A.lo x0.A.hi).lo (fromP x0.B.lo x0.B.hi).lo))), some (.int .u64 (tn (maxU (fromP x0.A.lo x0.A.hi).hi (fromP x0.B.lo x0.B.hi).hi)))], 24⟩, ⟨k4, [some (.int .u64 (tn (((span_meet_uint64 (fromP x0.A.lo x0.A.hi) (fromP x0.B.lo x0.B.hi)).1).lo))), some (.int .u64 (tn (((span_meet_uint64 (fromP x0.A.lo x0.A.hi) (fromP x0.B.lo x0.B.hi)).1).hi)))], 24⟩]) rfl HS.out ?_
  refine lin_val (i := 0) (v := .agg #[.int .u64 (tn ((fromP x0.A.lo x0.A.hi).lo)), .int .u64 (tn ((fromP x0.A.lo x0.A.hi).hi))]) rfl rfl (by rfl) (by intro x hx; have f0 := hx.load 1 0 rfl rfl; have f1 := hx.load 1 1 rfl rfl; go_simp; (first | done | exact rfl)) ?_
  simp only [List.set_cons_succ, List.set_cons_zero]
  refine lin_call (i := 1) (f := 70) (args := #[.agg #[.int .u64 (tn ((fromP x0.A.lo x0.A.hi).lo)), .int .u64 (tn ((fromP x0.A.lo x0.A.hi).hi))]]) (v := .agg #[.int .u64 (tn ((fromP x0.A.lo x0.A.hi).lo &&& ~~~(onesV ((fromP x0.A.lo x0.A.hi).lo ^^^ (fromP x0.A.lo x0.A.hi).hi)))), .int .u64 (tn (onesV ((fromP x0.A.lo x0.A.hi).lo ^^^ (fromP x0.A.lo x0.A.hi).hi)))]) (st_ups _ _) rfl rfl (by rfl) (fun x hx => by kernel_rfl) (by intro x hx; exact span_Bits_any (fromP x0.A.lo x0.A.hi) _) ?_
  simp only [List.set_cons_succ, List.set_cons_zero]
  refine lin_new (i := 2) rfl rfl (by rfl) [.int .u64 0, .int .u64 0] 51 (fun k => .pointer (some ⟨k, 0, none⟩)) [some (.int .u64 0), some (.int .u64 0)] (lessC_eq (lessC_eq (trivial))) (by intro x hx; go_simp; (first | done | exact rfl)) (fun k5 => ?_)
  simp only [List.set_cons_succ, List.set_cons_zero]
  refine lin_store (i := 3) (St w [⟨w.heap.size, [some (.int .u64 (tn (x0.A.lo))), some (.int .u64 (tn (x0.A.hi))), some (.int .u64 (tn (x0.B.lo))), some (.int .u64 (tn (x0.B.hi))), some (.int .u64 (tn (x0.V))), some (.int .u64 (tn (x0.W))), some (.int .i64 (ti (x0.N)))], 60⟩, ⟨k1, [some (.int .u64 (tn ((fromP x0.A.lo x0.A.hi).lo))), some (.int .u64 (tn ((fromP x0.A.lo x0.A.hi).hi)))], 24⟩, ⟨k2, [some (.int .u64 (tn ((fromP x0.B.lo x0.B.hi).lo))), some (.int .u64 (tn ((fromP x0.B.lo x0.B.hi).hi)))], 24⟩, ⟨k3, [some (.int .u64 (tn (minU (fromP x0.A.lo x0.A.hi).lo (fromP x0.B.lo x0.B.hi).lo))), some (.int .u64 (tn (maxU (fromP x0.A.lo x0.A.hi).hi (fromP x0.B.lo x0.B.hi).hi)))], 24⟩, ⟨k4, [some (.int .u64 (tn (((span_meet_uint64 (fromP x0.A.lo x0.A.hi) (fromP x0.B.lo x0.B.hi)).1).lo))), some (.int .u64 (tn (((span_meet_uint64 (fromP x0.A.lo x0.A.hi) (fromP x0.B.lo x0.B.hi)).1).hi)))], 24⟩, ⟨k5, [some (.int .u64 (tn ((fromP x0.A.lo x0.A.hi).lo &&& ~~~(onesV ((fromP x0.A.lo x0.A.hi).lo ^^^ (fromP x0.A.lo x0.A.hi).hi))))), some (.int .u64 (tn (onesV ((fromP x0.A.lo x0.A.hi).lo ^^^ (fromP x0.A.lo x0.A.hi).hi))))], 51⟩]) rfl rfl (by rfl) (fun x => ((x.setCell ⟨k5, 0, none⟩ (.int .u64 (tn ((fromP x0.A.lo x0.A.hi).lo &&& ~~~(onesV ((fromP x0.A.lo x0.A.hi).lo ^^^ (fromP x0.A.lo x0.A.hi).hi)))))).setCell ⟨k5, 1, none⟩ (.int .u64 (tn (onesV ((fromP x0.A.lo x0.A.hi).lo ^^^ (fromP x0.A.lo x0.A.hi).hi)))))) (by intro x hx; obtain ⟨u0, z0⟩ := hx.has 5 0 rfl (by simp); have q0 := hx.soft 5 0 rfl; obtain ⟨u1, z1⟩ := hx.has 5 1 rfl (by simp); have q1 := hx.soft 5 1 rfl; go_simp; (first | done | rfl)) (fun x hx => ((hx.put 5 0 (.int .u64 (tn ((fromP x0.A.lo x0.A.hi).lo &&& ~~~(onesV ((fromP x0.A.lo x0.A.hi).lo ^^^ (fromP x0.A.lo x0.A.hi).hi))))) rfl).put 5 1 (.int .u64 (tn (onesV ((fromP x0.A.lo x0.A.hi).lo ^^^ (fromP x0.A.lo x0.A.hi).hi)))) rfl)) ?_
  refine lin_done ?_
  intro W10 hx
  replace HS := hid hx
  clear hx
  -- region 13
  go_upto_region 13 with fail
  refine lin_begin (St w [⟨w.heap.size, [some (.int .u64 (tn (x0.A.lo))), some (.int .u64 (tn (x0.A.hi))), some (.int .u64 (tn (x0.B.lo))), some (.int .u64 (tn (x0.B.hi))), some (.int .u64 (tn (x0.V))), some (.int .u64 (tn (x0.W))), some (.int .i64 (ti (x0.N)))], 60⟩, ⟨k1, [some (.int .u64 (tn ((fromP x0.A.lo x0.A.hi).lo))), some (.int .u64 (tn ((fromP x0.A.lo x0.A.hi).hi)))], 24⟩, ⟨k2, [some (.int .u64 (tn ((fromP x0.B.lo x0.B.hi).lo))), some (.int .u64 (tn ((fromP x0.B.lo x0.B.hi).hi)))], 24⟩, ⟨k3, [some (.int .u64 (tn (minU (fromP x0.A.lo x0.A.hi).lo (fromP x0.B.lo x0.B.hi).lo))), some (.int .u64 (tn (maxU (fromP x0.A.lo x0.A.hi).hi (fromP x0.B.lo x0.B.hi).hi)))], 24⟩, ⟨k4, [some (.int .u64 (tn (((span_meet_uint64 (fromP x0.A.lo x0.A.hi) (fromP x0.B.lo x0.B.hi)).1).lo))), some (.int .u64 (tn (((span_meet_uint64 (fromP x0.A.lo x0.A.hi) (fromP x0.B.lo x0.B.hi)).1).hi)))], 24⟩, ⟨k5, [some (.int .u64 (tn ((fromP x0.A.lo x0.A.hi).lo &&& ~~~(onesV ((fromP x0.A.lo x0.A.hi).lo ^^^ (fromP x0.A.lo x0.A.hi).hi))))), some (.int .u64 (tn (onesV ((fromP x0.A.lo x0.A.hi).lo ^^^ (fromP x0.A.lo x0.A.hi).hi))))], 51⟩]) rfl HS.out ?_
  refine lin_val (i := 0) (v := .agg #[.int .u64 (tn (minU (fromP x0.A.lo x0.A.hi).lo (fromP x0.B.lo x0.B.hi).lo)), .int .u64 (tn (maxU (fromP x0.A.lo x0.A.hi).hi (fromP x0.B.lo x0.B.hi).hi))]) rfl rfl (by rfl) (by intro x hx; have f0 := hx.load 3 0 rfl rfl; have f1 := hx.load 3 1 rfl rfl; go_simp; (first | done | exact rfl)) ?_
  simp only [List.set_cons_succ, List.set_cons_zero]
  refine lin_val (i := 1) (v := .int .u64 (tn (insideV (fromP x0.A.lo x0.A.hi) x0.V))) rfl rfl (by rfl) (by intro x hx; go_simp; (first | done | exact rfl)) ?_
  simp only [List.set_cons_succ, List.set_cons_zero]
  refine lin_call (i := 2) (f := 19) (args := #[.agg #[.int .u64 (tn (minU (fromP x0.A.lo x0.A.hi).lo (fromP x0.B.lo x0.B.hi).lo)), .int .u64 (tn (maxU (fromP x0.A.lo x0.A.hi).hi (fromP x0.B.lo x0.B.hi).hi))], .int .u64 (tn (insideV (fromP x0.A.lo x0.A.hi) x0.V))]) (v := .bool true) (st_ups _ _) rfl rfl (by rfl) (fun x hx => by kernel_rfl) (by intro x hx; exact calls_is (span_In_any (P.mk (minU (fromP x0.A.lo x0.A.hi).lo (fromP x0.B.lo x0.B.hi).lo) (maxU (fromP x0.A.lo x0.A.hi).hi (fromP x0.B.lo x0.B.hi).hi)) (insideV (fromP x0.A.lo x0.A.hi) x0.V) _) (congrArg Value.bool (in_of (join_in1 HA.out)))) ?_
  simp only [List.set_cons_succ, List.set_cons_zero]
  refine lin_val (i := 3) (v := .bool true) rfl rfl (by rfl) (by intro x hx; go_simp; (first | done | exact rfl)) ?_
  simp only [List.set_cons_succ, List.set_cons_zero]
  refine lin_val (i := 4) (v := .agg #[.int .u64 (tn (minU (fromP x0.A.lo x0.A.hi).lo (fromP x0.B.lo x0.B.hi).lo)), .int .u64 (tn (maxU (fromP x0.A.lo x0.A.hi).hi (fromP x0.B.lo x0.B.hi).hi))]) rfl rfl (by rfl) (by intro x hx; have f0 := hx.load 3 0 rfl rfl; have f1 := hx.load 3 1 rfl rfl; go_simp; (first | done | exact rfl)) ?_
  simp only [List.set_cons_succ, List.set_cons_zero]
  refine lin_val (i := 5) (v := .int .u64 (tn (insideV (fromP x0.B.lo x0.B.hi) x0.W))) rfl rfl (by rfl) (by intro x hx; go_simp; (first | done | exact rfl)) ?_
  simp only [List.set_cons_succ, List.set_cons_zero]
  refine lin_call (i := 6) (f := 19) (args := #[.agg #[.int .u64 (tn (minU (fromP x0.A.lo x0.A.hi).lo (fromP x0.B.lo x0.B.hi).lo)), .int .u64 (tn (maxU (fromP x0.A.lo x0.A.hi).hi (fromP x0.B.lo x0.B.hi).hi))], .int .u64 (tn (insideV (fromP x0.B.lo x0.B.hi) x0.W))]) (v := .bool true) (st_ups _ _) rfl rfl (by rfl) (fun x hx => by kernel_rfl) (by intro x hx; exact calls_is (span_In_any (P.mk (minU (fromP x0.A.lo x0.A.hi).lo (fromP x0.B.lo x0.B.hi).lo) (maxU (fromP x0.A.lo x0.A.hi).hi (fromP x0.B.lo x0.B.hi).hi)) (insideV (fromP x0.B.lo x0.B.hi) x0.W) _) (congrArg Value.bool (in_of (join_in2 HB.out)))) ?_
  simp only [List.set_cons_succ, List.set_cons_zero]
  refine lin_val (i := 7) (v := .bool true) rfl rfl (by rfl) (by intro x hx; go_simp; (first | done | exact rfl)) ?_
  simp only [List.set_cons_succ, List.set_cons_zero]
  refine lin_val (i := 8) (v := .bool true) rfl rfl (by rfl) (by intro x hx; go_simp; (first | done | exact rfl)) ?_
  simp only [List.set_cons_succ, List.set_cons_zero]
  refine lin_val (i := 9) (v := .bool ((span_meet_uint64 (fromP x0.A.lo x0.A.hi) (fromP x0.B.lo x0.B.hi)).2)) rfl rfl (by rfl) (by intro x hx; go_simp; (first | done | exact rfl)) ?_
  simp only [List.set_cons_succ, List.set_cons_zero]
  refine lin_val (i := 10) (v := .pointer (some ⟨k1, 0, none⟩)) rfl rfl (by rfl) (by intro x hx; go_simp; (first | done | exact rfl)) ?_
  simp only [List.set_cons_succ, List.set_cons_zero]
  refine lin_val (i := 11) (v := .int .u64 (tn ((fromP x0.A.lo x0.A.hi).lo))) rfl rfl (by rfl) (by intro x hx; have f0 := hx.load 1 0 rfl rfl; go_simp; (first | done | exact rfl)) ?_
  simp only [List.set_cons_succ, List.set_cons_zero]
  refine lin_val (i := 12) (v := .pointer (some ⟨k2, 1, none⟩)) rfl rfl (by rfl) (by intro x hx; go_simp; (first | done | exact rfl)) ?_
  simp only [List.set_cons_succ, List.set_cons_zero]
  refine lin_val (i := 13) (v := .int .u64 (tn ((fromP x0.B.lo x0.B.hi).hi))) rfl rfl (by rfl) (by intro x hx; have f0 := hx.load 2 1 rfl rfl; go_simp; (first | done | exact rfl)) ?_
  simp only [List.set_cons_succ, List.set_cons_zero]
  refine lin_val (i := 14) (v := .bool (leU ((fromP x0.A.lo x0.A.hi).lo) ((fromP x0.B.lo x0.B.hi).hi))) rfl rfl (by rfl) (by intro x hx; go_simp; (first | done | exact leUT ((fromP x0.A.lo x0.A.hi).lo) ((fromP x0.B.lo x0.B.hi).hi) | exact congrArg _ (leUT ((fromP x0.A.lo x0.A.hi).lo) ((fromP x0.B.lo x0.B.hi).hi)) | (rw [leUT ((fromP x0.A.lo x0.A.hi).lo) ((fromP x0.B.lo x0.B.hi).hi)]; done) | (rw [leUT ((fromP x0.A.lo x0.A.hi).lo) ((fromP x0.B.lo x0.B.hi).hi)]; rfl))) ?_
  simp only [List.set_cons_succ, List.set_cons_zero]
  refine lin_val (i := 15) (v := .bool (leU ((fromP x0.A.lo x0.A.hi).lo) ((fromP x0.B.lo x0.B.hi).hi))) rfl rfl (by rfl) (by intro x hx; go_simp; (first | done | exact rfl)) ?_
  simp only [List.set_cons_succ, List.set_cons_zero]
  cases h1 : (leU ((fromP x0.A.lo x0.A.hi).lo) ((fromP x0.B.lo x0.B.hi).hi))
  · replace h1 := hid h1
    refine lin_no (i := 16) rfl rfl (by kernel_rfl) ?_
    simp only [List.set_cons_succ, List.set_cons_zero]
    refine lin_no (i := 17) rfl rfl (by kernel_rfl) ?_
    simp only [List.set_cons_succ, List.set_cons_zero]
    refine lin_no (i := 18) rfl rfl (by kernel_rfl) ?_
    simp only [List.set_cons_succ, List.set_cons_zero]
    refine lin_no (i := 19) rfl rfl (by kernel_rfl) ?_
    simp only [List.set_cons_succ, List.set_cons_zero]
    refine lin_no (i := 20) rfl rfl (by kernel_rfl) ?_
    simp only [List.set_cons_succ, List.set_cons_zero]
    refine lin_val (i := 21) (v := .bool false) rfl rfl (by rfl) (by intro x hx; go_simp; (first | done | exact rfl)) ?_
    simp only [List.set_cons_succ, List.set_cons_zero]
    refine lin_val (i := 22) (v := .bool true) rfl rfl (by rfl) (by intro x hx; go_simp; (first | done | (first | exact meet_f HLA.out HLB.out h1.out | exact eq_of_beq (meet_f HLA.out HLB.out h1.out) | exact congrArg _ (meet_f HLA.out HLB.out h1.out) | (rw [meet_f HLA.out HLB.out h1.out]; done) | ((first | rfl | skip); rw [meet_f HLA.out HLB.out h1.out]) | exact congrArg tn (eq_of_beq (meet_f HLA.out HLB.out h1.out)) | exact congrArg ti (eq_of_beq (meet_f HLA.out HLB.out h1.out)) | exact congrArg tn (eq_of_bne (meet_f HLA.out HLB.out h1.out)) | simpa using (meet_f HLA.out HLB.out h1.out)))) ?_
    simp only [List.set_cons_succ, List.set_cons_zero]
    refine lin_val (i := 23) (v := .bool true) rfl rfl (by rfl) (by intro x hx; go_simp; (first | done | exact rfl)) ?_
    simp only [List.set_cons_succ, List.set_cons_zero]
    refine lin_val (i := 24) (v := .bool true) rfl rfl (by rfl) (by intro x hx; go_simp; (first | done | exact rfl)) ?_
    simp only [List.set_cons_succ, List.set_cons_zero]
    refine lin_val (i := 25) (v := .agg #[.int .u64 (tn ((fromP x0.B.lo x0.B.hi).lo)), .int .u64 (tn ((fromP x0.B.lo x0.B.hi).hi))]) rfl rfl (by rfl) (by intro x hx; have f0 := hx.load 2 0 rfl rfl; have f1 := hx.load 2 1 rfl rfl; go_simp; (first | done | exact rfl)) ?_
    simp only [List.set_cons_succ, List.set_cons_zero]
    refine lin_val (i := 26) (v := .int .u64 (tn (insideV (fromP x0.A.lo x0.A.hi) x0.V))) rfl rfl (by rfl) (by intro x hx; go_simp; (first | done | exact rfl)) ?_
    simp only [List.set_cons_succ, List.set_cons_zero]
    refine lin_call (i := 27) (f := 19) (args := #[.agg #[.int .u64 (tn ((fromP x0.B.lo x0.B.hi).lo)), .int .u64 (tn ((fromP x0.B.lo x0.B.hi).hi))], .int .u64 (tn (insideV (fromP x0.A.lo x0.A.hi) x0.V))]) (v := .bool (span_within_uint64 (P.mk (insideV (fromP x0.A.lo x0.A.hi) x0.V) (insideV (fromP x0.A.lo x0.A.hi) x0.V)) (fromP x0.B.lo x0.B.hi))) (st_ups _ _) rfl rfl (by rfl) (fun x hx => by kernel_rfl) (by intro x hx; exact span_In_any (fromP x0.B.lo x0.B.hi) (insideV (fromP x0.A.lo x0.A.hi) x0.V) _) ?_
    simp only [List.set_cons_succ, List.set_cons_zero]
    refine lin_val (i := 28) (v := .bool ((!(span_within_uint64 (P.mk (insideV (fromP x0.A.lo x0.A.hi) x0.V) (insideV (fromP x0.A.lo x0.A.hi) x0.V)) (fromP x0.B.lo x0.B.hi))))) rfl rfl (by rfl) (by intro x hx; go_simp; (first | done | exact rfl)) ?_
    simp only [List.set_cons_succ, List.set_cons_zero]
    refine lin_val (i := 29) (v := .bool ((!(span_within_uint64 (P.mk (insideV (fromP x0.A.lo x0.A.hi) x0.V) (insideV (fromP x0.A.lo x0.A.hi) x0.V)) (fromP x0.B.lo x0.B.hi))))) rfl rfl (by rfl) (by intro x hx; go_simp; (first | done | exact rfl)) ?_
    simp only [List.set_cons_succ, List.set_cons_zero]
    cases h2 : ((!(span_within_uint64 (P.mk (insideV (fromP x0.A.lo x0.A.hi) x0.V) (insideV (fromP x0.A.lo x0.A.hi) x0.V)) (fromP x0.B.lo x0.B.hi))))
    · replace h2 := hid h2
      refine lin_val (i := 30) (v := .bool ((span_meet_uint64 (fromP x0.A.lo x0.A.hi) (fromP x0.B.lo x0.B.hi)).2)) rfl rfl (by rfl) (by intro x hx; go_simp; (first | done | exact rfl)) ?_
      simp only [List.set_cons_succ, List.set_cons_zero]
      refine lin_val (i := 31) (v := .bool ((span_meet_uint64 (fromP x0.A.lo x0.A.hi) (fromP x0.B.lo x0.B.hi)).2)) rfl rfl (by rfl) (by intro x hx; go_simp; (first | done | exact rfl)) ?_
      simp only [List.set_cons_succ, List.set_cons_zero]
      rw [show ((span_meet_uint64 (fromP x0.A.lo x0.A.hi) (fromP x0.B.lo x0.B.hi)).2) = true from (meet_in' HA.out (of_in (nn h2.out))).1]
      refine lin_val (i := 32) (v := .agg #[.int .u64 (tn (((span_meet_uint64 (fromP x0.A.lo x0.A.hi) (fromP x0.B.lo x0.B.hi)).1).lo)), .int .u64 (tn (((span_meet_uint64 (fromP x0.A.lo x0.A.hi) (fromP x0.B.lo x0.B.hi)).1).hi))]) rfl rfl (by rfl) (by intro x hx; have f0 := hx.load 4 0 rfl rfl; have f1 := hx.load 4 1 rfl rfl; go_simp; (first | done | exact rfl)) ?_
      simp only [List.set_cons_succ, List.set_cons_zero]
      refine lin_val (i := 33) (v := .int .u64 (tn (insideV (fromP x0.A.lo x0.A.hi) x0.V))) rfl rfl (by rfl) (by intro x hx; go_simp; (first | done | exact rfl)) ?_
      simp only [List.set_cons_succ, List.set_cons_zero]
      refine lin_call (i := 34) (f := 19) (args := #[.agg #[.int .u64 (tn (((span_meet_uint64 (fromP x0.A.lo x0.A.hi) (fromP x0.B.lo x0.B.hi)).1).lo)), .int .u64 (tn (((span_meet_uint64 (fromP x0.A.lo x0.A.hi) (fromP x0.B.lo x0.B.hi)).1).hi))], .int .u64 (tn (insideV (fromP x0.A.lo x0.A.hi) x0.V))]) (v := .bool true) (st_ups _ _) rfl rfl (by rfl) (fun x hx => by kernel_rfl) (by intro x hx; exact calls_is (span_In_any ((span_meet_uint64 (fromP x0.A.lo x0.A.hi) (fromP x0.B.lo x0.B.hi)).1) (insideV (fromP x0.A.lo x0.A.hi) x0.V) _) (congrArg Value.bool (in_of (meet_in' HA.out (of_in (nn h2.out))).2))) ?_
      simp only [List.set_cons_succ, List.set_cons_zero]
      refine lin_val (i := 35) (v := .bool true) rfl rfl (by rfl) (by intro x hx; go_simp; (first | done | exact rfl)) ?_
      simp only [List.set_cons_succ, List.set_cons_zero]
      refine lin_val (i := 36) (v := .bool true) rfl rfl (by rfl) (by intro x hx; go_simp; (first | done | exact rfl)) ?_
      simp only [List.set_cons_succ, List.set_cons_zero]
      refine lin_val (i := 37) (v := .bool true) rfl rfl (by rfl) (by intro x hx; go_simp; (first | done | exact rfl)) ?_
      simp only [List.set_cons_succ, List.set_cons_zero]
      refine lin_val (i := 38) (v := .bool true) rfl rfl (by rfl) (by intro x hx; go_simp; (first | done | exact rfl)) ?_
      simp only [List.set_cons_succ, List.set_cons_zero]
      refine lin_val (i := 39) (v := .int .u64 (tn (insideV (fromP x0.A.lo x0.A.hi) x0.V))) rfl rfl (by rfl) (by intro x hx; go_simp; (first | done | exact rfl)) ?_
      simp only [List.set_cons_succ, List.set_cons_zero]
      refine lin_val (i := 40) (v := .pointer (some ⟨k5, 1, none⟩)) rfl rfl (by rfl) (by intro x hx; go_simp; (first | done | exact rfl)) ?_
      simp only [List.set_cons_succ, List.set_cons_zero]
      refine lin_val (i := 41) (v := .int .u64 (tn (onesV ((fromP x0.A.lo x0.A.hi).lo ^^^ (fromP x0.A.lo x0.A.hi).hi)))) rfl rfl (by rfl) (by intro x hx; have f0 := hx.load 5 1 rfl rfl; go_simp; (first | done | exact rfl)) ?_
      simp only [List.set_cons_succ, List.set_cons_zero]
      refine lin_val (i := 42) (v := .int .u64 (tn ((insideV (fromP x0.A.lo x0.A.hi) x0.V) &&& ~~~(onesV ((fromP x0.A.lo x0.A.hi).lo ^^^ (fromP x0.A.lo x0.A.hi).hi))))) rfl rfl (by rfl) (by intro x hx; go_simp; (first | done | exact andNotUT (insideV (fromP x0.A.lo x0.A.hi) x0.V) (onesV ((fromP x0.A.lo x0.A.hi).lo ^^^ (fromP x0.A.lo x0.A.hi).hi)) | exact congrArg _ (andNotUT (insideV (fromP x0.A.lo x0.A.hi) x0.V) (onesV ((fromP x0.A.lo x0.A.hi).lo ^^^ (fromP x0.A.lo x0.A.hi).hi))) | (rw [andNotUT (insideV (fromP x0.A.lo x0.A.hi) x0.V) (onesV ((fromP x0.A.lo x0.A.hi).lo ^^^ (fromP x0.A.lo x0.A.hi).hi))]; done) | (rw [andNotUT (insideV (fromP x0.A.lo x0.A.hi) x0.V) (onesV ((fromP x0.A.lo x0.A.hi).lo ^^^ (fromP x0.A.lo x0.A.hi).hi))]; rfl))) ?_
      simp only [List.set_cons_succ, List.set_cons_zero]
      refine lin_val (i := 43) (v := .pointer (some ⟨k5, 0, none⟩)) rfl rfl (by rfl) (by intro x hx; go_simp; (first | done | exact rfl)) ?_
      simp only [List.set_cons_succ, List.set_cons_zero]
      refine lin_val (i := 44) (v := .int .u64 (tn ((fromP x0.A.lo x0.A.hi).lo &&& ~~~(onesV ((fromP x0.A.lo x0.A.hi).lo ^^^ (fromP x0.A.lo x0.A.hi).hi))))) rfl rfl (by rfl) (by intro x hx; have f0 := hx.load 5 0 rfl rfl; go_simp; (first | done | exact rfl)) ?_
      simp only [List.set_cons_succ, List.set_cons_zero]
      refine lin_val (i := 45) (v := .bool true) rfl rfl (by rfl) (by intro x hx; go_simp; (first | done | (first | exact beq_iff_eq.2 (bits_in' HA.out) | exact eq_of_beq (beq_iff_eq.2 (bits_in' HA.out)) | exact congrArg _ (beq_iff_eq.2 (bits_in' HA.out)) | (rw [beq_iff_eq.2 (bits_in' HA.out)]; done) | ((first | rfl | exact eqUT ((insideV (fromP x0.A.lo x0.A.hi) x0.V) &&& ~~~(onesV ((fromP x0.A.lo x0.A.hi).lo ^^^ (fromP x0.A.lo x0.A.hi).hi))) ((fromP x0.A.lo x0.A.hi).lo &&& ~~~(onesV ((fromP x0.A.lo x0.A.hi).lo ^^^ (fromP x0.A.lo x0.A.hi).hi))) | exact congrArg _ (eqUT ((insideV (fromP x0.A.lo x0.A.hi) x0.V) &&& ~~~(onesV ((fromP x0.A.lo x0.A.hi).lo ^^^ (fromP x0.A.lo x0.A.hi).hi))) ((fromP x0.A.lo x0.A.hi).lo &&& ~~~(onesV ((fromP x0.A.lo x0.A.hi).lo ^^^ (fromP x0.A.lo x0.A.hi).hi)))) | (rw [eqUT ((insideV (fromP x0.A.lo x0.A.hi) x0.V) &&& ~~~(onesV ((fromP x0.A.lo x0.A.hi).lo ^^^ (fromP x0.A.lo x0.A.hi).hi))) ((fromP x0.A.lo x0.A.hi).lo &&& ~~~(onesV ((fromP x0.A.lo x0.A.hi).lo ^^^ (fromP x0.A.lo x0.A.hi).hi)))]; done) | (rw [eqUT ((insideV (fromP x0.A.lo x0.A.hi) x0.V) &&& ~~~(onesV ((fromP x0.A.lo x0.A.hi).lo ^^^ (fromP x0.A.lo x0.A.hi).hi))) ((fromP x0.A.lo x0.A.hi).lo &&& ~~~(onesV ((fromP x0.A.lo x0.A.hi).lo ^^^ (fromP x0.A.lo x0.A.hi).hi)))]; rfl)); rw [beq_iff_eq.2 (bits_in' HA.out)]) | exact congrArg tn (eq_of_beq (beq_iff_eq.2 (bits_in' HA.out))) | exact congrArg ti (eq_of_beq (beq_iff_eq.2 (bits_in' HA.out))) | exact congrArg tn (eq_of_bne (beq_iff_eq.2 (bits_in' HA.out))) | simpa using (beq_iff_eq.2 (bits_in' HA.out))))) ?_
      simp only [List.set_cons_succ, List.set_cons_zero]
      refine lin_val (i := 46) (v := .bool true) rfl rfl (by rfl) (by intro x hx; go_simp; (first | done | exact rfl)) ?_
      simp only [List.set_cons_succ, List.set_cons_zero]
      refine lin_val (i := 47) (v := .bool true) rfl rfl (by rfl) (by intro x hx; go_simp; (first | done | exact rfl)) ?_
      simp only [List.set_cons_succ, List.set_cons_zero]
      refine lin_val (i := 48) (v := .agg #[.int .u64 (tn ((fromP x0.A.lo x0.A.hi).lo &&& ~~~(onesV ((fromP x0.A.lo x0.A.hi).lo ^^^ (fromP x0.A.lo x0.A.hi).hi)))), .int .u64 (tn (onesV ((fromP x0.A.lo x0.A.hi).lo ^^^ (fromP x0.A.lo x0.A.hi).hi)))]) rfl rfl (by rfl) (by intro x hx; have f0 := hx.load 5 0 rfl rfl; have f1 := hx.load 5 1 rfl rfl; go_simp; (first | done | exact rfl)) ?_
      simp only [List.set_cons_succ, List.set_cons_zero]
      refine lin_call (i := 49) (f := 75) (args := #[.agg #[.int .u64 (tn ((fromP x0.A.lo x0.A.hi).lo &&& ~~~(onesV ((fromP x0.A.lo x0.A.hi).lo ^^^ (fromP x0.A.lo x0.A.hi).hi)))), .int .u64 (tn (onesV ((fromP x0.A.lo x0.A.hi).lo ^^^ (fromP x0.A.lo x0.A.hi).hi)))]]) (v := .agg #[.int .u64 (tn ((P.mk ((fromP x0.A.lo x0.A.hi).lo &&& ~~~(onesV ((fromP x0.A.lo x0.A.hi).lo ^^^ (fromP x0.A.lo x0.A.hi).hi))) (onesV ((fromP x0.A.lo x0.A.hi).lo ^^^ (fromP x0.A.lo x0.A.hi).hi))).lo)), .int .u64 (tn ((P.mk ((fromP x0.A.lo x0.A.hi).lo &&& ~~~(onesV ((fromP x0.A.lo x0.A.hi).lo ^^^ (fromP x0.A.lo x0.A.hi).hi))) (onesV ((fromP x0.A.lo x0.A.hi).lo ^^^ (fromP x0.A.lo x0.A.hi).hi))).lo ||| (P.mk ((fromP x0.A.lo x0.A.hi).lo &&& ~~~(onesV ((fromP x0.A.lo x0.A.hi).lo ^^^ (fromP x0.A.lo x0.A.hi).hi))) (onesV ((fromP x0.A.lo x0.A.hi).lo ^^^ (fromP x0.A.lo x0.A.hi).hi))).hi))]) (st_ups _ _) rfl rfl (by rfl) (fun x hx => by kernel_rfl) (by intro x hx; exact span_Bounds_any (P.mk ((fromP x0.A.lo x0.A.hi).lo &&& ~~~(onesV ((fromP x0.A.lo x0.A.hi).lo ^^^ (fromP x0.A.lo x0.A.hi).hi))) (onesV ((fromP x0.A.lo x0.A.hi).lo ^^^ (fromP x0.A.lo x0.A.hi).hi))) _) ?_
      simp only [List.set_cons_succ, List.set_cons_zero]
      refine lin_val (i := 50) (v := .int .u64 (tn (insideV (fromP x0.A.lo x0.A.hi) x0.V))) rfl rfl (by rfl) (by intro x hx; go_simp; (first | done | exact rfl)) ?_
      simp only [List.set_cons_succ, List.set_cons_zero]
      refine lin_call (i := 51) (f := 19) (args := #[.agg #[.int .u64 (tn ((P.mk ((fromP x0.A.lo x0.A.hi).lo &&& ~~~(onesV ((fromP x0.A.lo x0.A.hi).lo ^^^ (fromP x0.A.lo x0.A.hi).hi))) (onesV ((fromP x0.A.lo x0.A.hi).lo ^^^ (fromP x0.A.lo x0.A.hi).hi))).lo)), .int .u64 (tn ((P.mk ((fromP x0.A.lo x0.A.hi).lo &&& ~~~(onesV ((fromP x0.A.lo x0.A.hi).lo ^^^ (fromP x0.A.lo x0.A.hi).hi))) (onesV ((fromP x0.A.lo x0.A.hi).lo ^^^ (fromP x0.A.lo x0.A.hi).hi))).lo ||| (P.mk ((fromP x0.A.lo x0.A.hi).lo &&& ~~~(onesV ((fromP x0.A.lo x0.A.hi).lo ^^^ (fromP x0.A.lo x0.A.hi).hi))) (onesV ((fromP x0.A.lo x0.A.hi).lo ^^^ (fromP x0.A.lo x0.A.hi).hi))).hi))], .int .u64 (tn (insideV (fromP x0.A.lo x0.A.hi) x0.V))]) (v := .bool true) (st_ups _ _) rfl rfl (by rfl) (fun x hx => by kernel_rfl) (by intro x hx; exact calls_is (span_In_any (P.mk ((P.mk ((fromP x0.A.lo x0.A.hi).lo &&& ~~~(onesV ((fromP x0.A.lo x0.A.hi).lo ^^^ (fromP x0.A.lo x0.A.hi).hi))) (onesV ((fromP x0.A.lo x0.A.hi).lo ^^^ (fromP x0.A.lo x0.A.hi).hi))).lo) ((P.mk ((fromP x0.A.lo x0.A.hi).lo &&& ~~~(onesV ((fromP x0.A.lo x0.A.hi).lo ^^^ (fromP x0.A.lo x0.A.hi).hi))) (onesV ((fromP x0.A.lo x0.A.hi).lo ^^^ (fromP x0.A.lo x0.A.hi).hi))).lo ||| (P.mk ((fromP x0.A.lo x0.A.hi).lo &&& ~~~(onesV ((fromP x0.A.lo x0.A.hi).lo ^^^ (fromP x0.A.lo x0.A.hi).hi))) (onesV ((fromP x0.A.lo x0.A.hi).lo ^^^ (fromP x0.A.lo x0.A.hi).hi))).hi)) (insideV (fromP x0.A.lo x0.A.hi) x0.V) _) (congrArg Value.bool (in_of (tnum_in (bits_in' HA.out))))) ?_
      simp only [List.set_cons_succ, List.set_cons_zero]
      refine lin_val (i := 52) (v := .bool true) rfl rfl (by rfl) (by intro x hx; go_simp; (first | done | exact rfl)) ?_
      simp only [List.set_cons_succ, List.set_cons_zero]
      refine lin_val (i := 53) (v := .bool true) rfl rfl (by rfl) (by intro x hx; go_simp; (first | done | exact rfl)) ?_
      simp only [List.set_cons_succ, List.set_cons_zero]
      refine lin_val (i := 54) (v := .agg #[.int .u64 (tn ((fromP x0.A.lo x0.A.hi).lo)), .int .u64 (tn ((fromP x0.A.lo x0.A.hi).hi))]) rfl rfl (by rfl) (by intro x hx; have f0 := hx.load 1 0 rfl rfl; have f1 := hx.load 1 1 rfl rfl; go_simp; (first | done | exact rfl)) ?_
      simp only [List.set_cons_succ, List.set_cons_zero]
      refine lin_call (i := 55) (f := 68) (args := #[.agg #[.int .u64 (tn ((fromP x0.A.lo x0.A.hi).lo)), .int .u64 (tn ((fromP x0.A.lo x0.A.hi).hi))]]) (v := .agg #[.int .i64 (ti ((span_ToSigned (fromP x0.A.lo x0.A.hi)).lo)), .int .i64 (ti ((span_ToSigned (fromP x0.A.lo x0.A.hi)).hi))]) (st_ups _ _) rfl rfl (by rfl) (fun x hx => by kernel_rfl) (by intro x hx; exact span_ToSigned_any (fromP x0.A.lo x0.A.hi) _) ?_
      simp only [List.set_cons_succ, List.set_cons_zero]
      refine lin_val (i := 56) (v := .int .u64 (tn (insideV (fromP x0.A.lo x0.A.hi) x0.V))) rfl rfl (by rfl) (by intro x hx; go_simp; (first | done | exact rfl)) ?_
      simp only [List.set_cons_succ, List.set_cons_zero]
      refine lin_val (i := 57) (v := .int .i64 (ti (insideV (fromP x0.A.lo x0.A.hi) x0.V))) rfl rfl (by rfl) (by intro x hx; go_simp; (first | done | exact toI64 (insideV (fromP x0.A.lo x0.A.hi) x0.V) | exact congrArg _ (toI64 (insideV (fromP x0.A.lo x0.A.hi) x0.V)) | (rw [toI64 (insideV (fromP x0.A.lo x0.A.hi) x0.V)]; done) | (rw [toI64 (insideV (fromP x0.A.lo x0.A.hi) x0.V)]; rfl))) ?_
      simp only [List.set_cons_succ, List.set_cons_zero]
      refine lin_call (i := 58) (f := 54) (args := #[.agg #[.int .i64 (ti ((span_ToSigned (fromP x0.A.lo x0.A.hi)).lo)), .int .i64 (ti ((span_ToSigned (fromP x0.A.lo x0.A.hi)).hi))], .int .i64 (ti (insideV (fromP x0.A.lo x0.A.hi) x0.V))]) (v := .bool true) (st_ups _ _) rfl rfl (by rfl) (fun x hx => by kernel_rfl) (by intro x hx; exact calls_is (span_Sin_any (span_ToSigned (fromP x0.A.lo x0.A.hi)) (insideV (fromP x0.A.lo x0.A.hi) x0.V) _) (congrArg Value.bool (sin_of (toSigned_in HA.out)))) ?_
      simp only [List.set_cons_succ, List.set_cons_zero]
      refine lin_val (i := 59) (v := .bool true) rfl rfl (by rfl) (by intro x hx; go_simp; (first | done | exact rfl)) ?_
      simp only [List.set_cons_succ, List.set_cons_zero]
      refine lin_val (i := 60) (v := .bool true) rfl rfl (by rfl) (by intro x hx; go_simp; (first | done | exact rfl)) ?_
      simp only [List.set_cons_succ, List.set_cons_zero]
      refine lin_call (i := 61) (f := 12) (args := #[]) (v := .bool true) (st_ups _ _) rfl rfl (by rfl) (fun x hx => by kernel_rfl) (by intro x hx; exact law_known_any _) ?_
      simp only [List.set_cons_succ, List.set_cons_zero]
      refine lin_val (i := 62) (v := .bool true) rfl rfl (by rfl) (by intro x hx; go_simp; (first | done | exact rfl)) ?_
      simp only [List.set_cons_succ, List.set_cons_zero]
      refine lin_val (i := 63) (v := .bool true) rfl rfl (by rfl) (by intro x hx; go_simp; (first | done | exact rfl)) ?_
      simp only [List.set_cons_succ, List.set_cons_zero]
      refine lin_done ?_
      intro W11 hx
      replace HS := hid hx
      clear hx
      go_wp2
      exact bodyPost_ret (v := .bool true) (by simp [results, Try.results6, go_sem]) rfl ⟨rfl, HS.out.below⟩
    · replace h2 := hid h2
      refine lin_no (i := 30) rfl rfl (by kernel_rfl) ?_
      simp only [List.set_cons_succ, List.set_cons_zero]
      refine lin_no (i := 31) rfl rfl (by kernel_rfl) ?_
      simp only [List.set_cons_succ, List.set_cons_zero]
      refine lin_no (i := 32) rfl rfl (by kernel_rfl) ?_
      simp only [List.set_cons_succ, List.set_cons_zero]
      refine lin_no (i := 33) rfl rfl (by kernel_rfl) ?_
      simp only [List.set_cons_succ, List.set_cons_zero]
      refine lin_no (i := 34) rfl rfl (by kernel_rfl) ?_
      simp only [List.set_cons_succ, List.set_cons_zero]
      refine lin_no (i := 35) rfl rfl (by kernel_rfl) ?_
      simp only [List.set_cons_succ, List.set_cons_zero]
      refine lin_val (i := 36) (v := .bool true) rfl rfl (by rfl) (by intro x hx; go_simp; (first | done | exact rfl)) ?_
      simp only [List.set_cons_succ, List.set_cons_zero]
      refine lin_val (i := 37) (v := .bool true) rfl rfl (by rfl) (by intro x hx; go_simp; (first | done | exact rfl)) ?_
      simp only [List.set_cons_succ, List.set_cons_zero]
      refine lin_val (i := 38) (v := .bool true) rfl rfl (by rfl) (by intro x hx; go_simp; (first | done | exact rfl)) ?_
      simp only [List.set_cons_succ, List.set_cons_zero]
      refine lin_val (i := 39) (v := .int .u64 (tn (insideV (fromP x0.A.lo x0.A.hi) x0.V))) rfl rfl (by rfl) (by intro x hx; go_simp; (first | done | exact rfl)) ?_
      simp only [List.set_cons_succ, List.set_cons_zero]
      refine lin_val (i := 40) (v := .pointer (some ⟨k5, 1, none⟩)) rfl rfl (by rfl) (by intro x hx; go_simp; (first | done | exact rfl)) ?_
      simp only [List.set_cons_succ, List.set_cons_zero]
      refine lin_val (i := 41) (v := .int .u64 (tn (onesV ((fromP x0.A.lo x0.A.hi).lo ^^^ (fromP x0.A.lo x0.A.hi).hi)))) rfl rfl (by rfl) (by intro x hx; have f0 := hx.load 5 1 rfl rfl; go_simp; (first | done | exact rfl)) ?_
      simp only [List.set_cons_succ, List.set_cons_zero]
      refine lin_val (i := 42) (v := .int .u64 (tn ((insideV (fromP x0.A.lo x0.A.hi) x0.V) &&& ~~~(onesV ((fromP x0.A.lo x0.A.hi).lo ^^^ (fromP x0.A.lo x0.A.hi).hi))))) rfl rfl (by rfl) (by intro x hx; go_simp; (first | done | exact andNotUT (insideV (fromP x0.A.lo x0.A.hi) x0.V) (onesV ((fromP x0.A.lo x0.A.hi).lo ^^^ (fromP x0.A.lo x0.A.hi).hi)) | exact congrArg _ (andNotUT (insideV (fromP x0.A.lo x0.A.hi) x0.V) (onesV ((fromP x0.A.lo x0.A.hi).lo ^^^ (fromP x0.A.lo x0.A.hi).hi))) | (rw [andNotUT (insideV (fromP x0.A.lo x0.A.hi) x0.V) (onesV ((fromP x0.A.lo x0.A.hi).lo ^^^ (fromP x0.A.lo x0.A.hi).hi))]; done) | (rw [andNotUT (insideV (fromP x0.A.lo x0.A.hi) x0.V) (onesV ((fromP x0.A.lo x0.A.hi).lo ^^^ (fromP x0.A.lo x0.A.hi).hi))]; rfl))) ?_
      simp only [List.set_cons_succ, List.set_cons_zero]
      refine lin_val (i := 43) (v := .pointer (some ⟨k5, 0, none⟩)) rfl rfl (by rfl) (by intro x hx; go_simp; (first | done | exact rfl)) ?_
      simp only [List.set_cons_succ, List.set_cons_zero]
      refine lin_val (i := 44) (v := .int .u64 (tn ((fromP x0.A.lo x0.A.hi).lo &&& ~~~(onesV ((fromP x0.A.lo x0.A.hi).lo ^^^ (fromP x0.A.lo x0.A.hi).hi))))) rfl rfl (by rfl) (by intro x hx; have f0 := hx.load 5 0 rfl rfl; go_simp; (first | done | exact rfl)) ?_
      simp only [List.set_cons_succ, List.set_cons_zero]
      refine lin_val (i := 45) (v := .bool true) rfl rfl (by rfl) (by intro x hx; go_simp; (first | done | (first | exact beq_iff_eq.2 (bits_in' HA.out) | exact eq_of_beq (beq_iff_eq.2 (bits_in' HA.out)) | exact congrArg _ (beq_iff_eq.2 (bits_in' HA.out)) | (rw [beq_iff_eq.2 (bits_in' HA.out)]; done) | ((first | rfl | exact eqUT ((insideV (fromP x0.A.lo x0.A.hi) x0.V) &&& ~~~(onesV ((fromP x0.A.lo x0.A.hi).lo ^^^ (fromP x0.A.lo x0.A.hi).hi))) ((fromP x0.A.lo x0.A.hi).lo &&& ~~~(onesV ((fromP x0.A.lo x0.A.hi).lo ^^^ (fromP x0.A.lo x0.A.hi).hi))) | exact congrArg _ (eqUT ((insideV (fromP x0.A.lo x0.A.hi) x0.V) &&& ~~~(onesV ((fromP x0.A.lo x0.A.hi).lo ^^^ (fromP x0.A.lo x0.A.hi).hi))) ((fromP x0.A.lo x0.A.hi).lo &&& ~~~(onesV ((fromP x0.A.lo x0.A.hi).lo ^^^ (fromP x0.A.lo x0.A.hi).hi)))) | (rw [eqUT ((insideV (fromP x0.A.lo x0.A.hi) x0.V) &&& ~~~(onesV ((fromP x0.A.lo x0.A.hi).lo ^^^ (fromP x0.A.lo x0.A.hi).hi))) ((fromP x0.A.lo x0.A.hi).lo &&& ~~~(onesV ((fromP x0.A.lo x0.A.hi).lo ^^^ (fromP x0.A.lo x0.A.hi).hi)))]; done) | (rw [eqUT ((insideV (fromP x0.A.lo x0.A.hi) x0.V) &&& ~~~(onesV ((fromP x0.A.lo x0.A.hi).lo ^^^ (fromP x0.A.lo x0.A.hi).hi))) ((fromP x0.A.lo x0.A.hi).lo &&& ~~~(onesV ((fromP x0.A.lo x0.A.hi).lo ^^^ (fromP x0.A.lo x0.A.hi).hi)))]; rfl)); rw [beq_iff_eq.2 (bits_in' HA.out)]) | exact congrArg tn (eq_of_beq (beq_iff_eq.2 (bits_in' HA.out))) | exact congrArg ti (eq_of_beq (beq_iff_eq.2 (bits_in' HA.out))) | exact congrArg tn (eq_of_bne (beq_iff_eq.2 (bits_in' HA.out))) | simpa using (beq_iff_eq.2 (bits_in' HA.out))))) ?_
      simp only [List.set_cons_succ, List.set_cons_zero]
      refine lin_val (i := 46) (v := .bool true) rfl rfl (by rfl) (by intro x hx; go_simp; (first | done | exact rfl)) ?_
      simp only [List.set_cons_succ, List.set_cons_zero]
      refine lin_val (i := 47) (v := .bool true) rfl rfl (by rfl) (by intro x hx; go_simp; (first | done | exact rfl)) ?_
      simp only [List.set_cons_succ, List.set_cons_zero]
      refine lin_val (i := 48) (v := .agg #[.int .u64 (tn ((fromP x0.A.lo x0.A.hi).lo &&& ~~~(onesV ((fromP x0.A.lo x0.A.hi).lo ^^^ (fromP x0.A.lo x0.A.hi).hi)))), .int .u64 (tn (onesV ((fromP x0.A.lo x0.A.hi).lo ^^^ (fromP x0.A.lo x0.A.hi).hi)))]) rfl rfl (by rfl) (by intro x hx; have f0 := hx.load 5 0 rfl rfl; have f1 := hx.load 5 1 rfl rfl; go_simp; (first | done | exact rfl)) ?_
      simp only [List.set_cons_succ, List.set_cons_zero]
      refine lin_call (i := 49) (f := 75) (args := #[.agg #[.int .u64 (tn ((fromP x0.A.lo x0.A.hi).lo &&& ~~~(onesV ((fromP x0.A.lo x0.A.hi).lo ^^^ (fromP x0.A.lo x0.A.hi).hi)))), .int .u64 (tn (onesV ((fromP x0.A.lo x0.A.hi).lo ^^^ (fromP x0.A.lo x0.A.hi).hi)))]]) (v := .agg #[.int .u64 (tn ((P.mk ((fromP x0.A.lo x0.A.hi).lo &&& ~~~(onesV ((fromP x0.A.lo x0.A.hi).lo ^^^ (fromP x0.A.lo x0.A.hi).hi))) (onesV ((fromP x0.A.lo x0.A.hi).lo ^^^ (fromP x0.A.lo x0.A.hi).hi))).lo)), .int .u64 (tn ((P.mk ((fromP x0.A.lo x0.A.hi).lo &&& ~~~(onesV ((fromP x0.A.lo x0.A.hi).lo ^^^ (fromP x0.A.lo x0.A.hi).hi))) (onesV ((fromP x0.A.lo x0.A.hi).lo ^^^ (fromP x0.A.lo x0.A.hi).hi))).lo ||| (P.mk ((fromP x0.A.lo x0.A.hi).lo &&& ~~~(onesV ((fromP x0.A.lo x0.A.hi).lo ^^^ (fromP x0.A.lo x0.A.hi).hi))) (onesV ((fromP x0.A.lo x0.A.hi).lo ^^^ (fromP x0.A.lo x0.A.hi).hi))).hi))]) (st_ups _ _) rfl rfl (by rfl) (fun x hx => by kernel_rfl) (by intro x hx; exact span_Bounds_any (P.mk ((fromP x0.A.lo x0.A.hi).lo &&& ~~~(onesV ((fromP x0.A.lo x0.A.hi).lo ^^^ (fromP x0.A.lo x0.A.hi).hi))) (onesV ((fromP x0.A.lo x0.A.hi).lo ^^^ (fromP x0.A.lo x0.A.hi).hi))) _) ?_
      simp only [List.set_cons_succ, List.set_cons_zero]
      refine lin_val (i := 50) (v := .int .u64 (tn (insideV (fromP x0.A.lo x0.A.hi) x0.V))) rfl rfl (by rfl) (by intro x hx; go_simp; (first | done | exact rfl)) ?_
      simp only [List.set_cons_succ, List.set_cons_zero]
      refine lin_call (i := 51) (f := 19) (args := #[.agg #[.int .u64 (tn ((P.mk ((fromP x0.A.lo x0.A.hi).lo &&& ~~~(onesV ((fromP x0.A.lo x0.A.hi).lo ^^^ (fromP x0.A.lo x0.A.hi).hi))) (onesV ((fromP x0.A.lo x0.A.hi).lo ^^^ (fromP x0.A.lo x0.A.hi).hi))).lo)), .int .u64 (tn ((P.mk ((fromP x0.A.lo x0.A.hi).lo &&& ~~~(onesV ((fromP x0.A.lo x0.A.hi).lo ^^^ (fromP x0.A.lo x0.A.hi).hi))) (onesV ((fromP x0.A.lo x0.A.hi).lo ^^^ (fromP x0.A.lo x0.A.hi).hi))).lo ||| (P.mk ((fromP x0.A.lo x0.A.hi).lo &&& ~~~(onesV ((fromP x0.A.lo x0.A.hi).lo ^^^ (fromP x0.A.lo x0.A.hi).hi))) (onesV ((fromP x0.A.lo x0.A.hi).lo ^^^ (fromP x0.A.lo x0.A.hi).hi))).hi))], .int .u64 (tn (insideV (fromP x0.A.lo x0.A.hi) x0.V))]) (v := .bool true) (st_ups _ _) rfl rfl (by rfl) (fun x hx => by kernel_rfl) (by intro x hx; exact calls_is (span_In_any (P.mk ((P.mk ((fromP x0.A.lo x0.A.hi).lo &&& ~~~(onesV ((fromP x0.A.lo x0.A.hi).lo ^^^ (fromP x0.A.lo x0.A.hi).hi))) (onesV ((fromP x0.A.lo x0.A.hi).lo ^^^ (fromP x0.A.lo x0.A.hi).hi))).lo) ((P.mk ((fromP x0.A.lo x0.A.hi).lo &&& ~~~(onesV ((fromP x0.A.lo x0.A.hi).lo ^^^ (fromP x0.A.lo x0.A.hi).hi))) (onesV ((fromP x0.A.lo x0.A.hi).lo ^^^ (fromP x0.A.lo x0.A.hi).hi))).lo ||| (P.mk ((fromP x0.A.lo x0.A.hi).lo &&& ~~~(onesV ((fromP x0.A.lo x0.A.hi).lo ^^^ (fromP x0.A.lo x0.A.hi).hi))) (onesV ((fromP x0.A.lo x0.A.hi).lo ^^^ (fromP x0.A.lo x0.A.hi).hi))).hi)) (insideV (fromP x0.A.lo x0.A.hi) x0.V) _) (congrArg Value.bool (in_of (tnum_in (bits_in' HA.out))))) ?_
      simp only [List.set_cons_succ, List.set_cons_zero]
      refine lin_val (i := 52) (v := .bool true) rfl rfl (by rfl) (by intro x hx; go_simp; (first | done | exact rfl)) ?_
      simp only [List.set_cons_succ, List.set_cons_zero]
      refine lin_val (i := 53) (v := .bool true) rfl rfl (by rfl) (by intro x hx; go_simp; (first | done | exact rfl)) ?_
      simp only [List.set_cons_succ, List.set_cons_zero]
      refine lin_val (i := 54) (v := .agg #[.int .u64 (tn ((fromP x0.A.lo x0.A.hi).lo)), .int .u64 (tn ((fromP x0.A.lo x0.A.hi).hi))]) rfl rfl (by rfl) (by intro x hx; have f0 := hx.load 1 0 rfl rfl; have f1 := hx.load 1 1 rfl rfl; go_simp; (first | done | exact rfl)) ?_
      simp only [List.set_cons_succ, List.set_cons_zero]
      refine lin_call (i := 55) (f := 68) (args := #[.agg #[.int .u64 (tn ((fromP x0.A.lo x0.A.hi).lo)), .int .u64 (tn ((fromP x0.A.lo x0.A.hi).hi))]]) (v := .agg #[.int .i64 (ti ((span_ToSigned (fromP x0.A.lo x0.A.hi)).lo)), .int .i64 (ti ((span_ToSigned (fromP x0.A.lo x0.A.hi)).hi))]) (st_ups _ _) rfl rfl (by rfl) (fun x hx => by kernel_rfl) (by intro x hx; exact span_ToSigned_any (fromP x0.A.lo x0.A.hi) _) ?_
      simp only [List.set_cons_succ, List.set_cons_zero]
      refine lin_val (i := 56) (v := .int .u64 (tn (insideV (fromP x0.A.lo x0.A.hi) x0.V))) rfl rfl (by rfl) (by intro x hx; go_simp; (first | done | exact rfl)) ?_
      simp only [List.set_cons_succ, List.set_cons_zero]
      refine lin_val (i := 57) (v := .int .i64 (ti (insideV (fromP x0.A.lo x0.A.hi) x0.V))) rfl rfl (by rfl) (by intro x hx; go_simp; (first | done | exact toI64 (insideV (fromP x0.A.lo x0.A.hi) x0.V) | exact congrArg _ (toI64 (insideV (fromP x0.A.lo x0.A.hi) x0.V)) | (rw [toI64 (insideV (fromP x0.A.lo x0.A.hi) x0.V)]; done) | (rw [toI64 (insideV (fromP x0.A.lo x0.A.hi) x0.V)]; rfl))) ?_
      simp only [List.set_cons_succ, List.set_cons_zero]
      refine lin_call (i := 58) (f := 54) (args := #[.agg #[.int .i64 (ti ((span_ToSigned (fromP x0.A.lo x0.A.hi)).lo)), .int .i64 (ti ((span_ToSigned (fromP x0.A.lo x0.A.hi)).hi))], .int .i64 (ti (insideV (fromP x0.A.lo x0.A.hi) x0.V))]) (v := .bool true) (st_ups _ _) rfl rfl (by rfl) (fun x hx => by kernel_rfl) (by intro x hx; exact calls_is (span_Sin_any (span_ToSigned (fromP x0.A.lo x0.A.hi)) (insideV (fromP x0.A.lo x0.A.hi) x0.V) _) (congrArg Value.bool (sin_of (toSigned_in HA.out)))) ?_
      simp only [List.set_cons_succ, List.set_cons_zero]
      refine lin_val (i := 59) (v := .bool true) rfl rfl (by rfl) (by intro x hx; go_simp; (first | done | exact rfl)) ?_
      simp only [List.set_cons_succ, List.set_cons_zero]
      refine lin_val (i := 60) (v := .bool true) rfl rfl (by rfl) (by intro x hx; go_simp; (first | done | exact rfl)) ?_
      simp only [List.set_cons_succ, List.set_cons_zero]
      refine lin_call (i := 61) (f := 12) (args := #[]) (v := .bool true) (st_ups _ _) rfl rfl (by rfl) (fun x hx => by kernel_rfl) (by intro x hx; exact law_known_any _) ?_
      simp only [List.set_cons_succ, List.set_cons_zero]
      refine lin_val (i := 62) (v := .bool true) rfl rfl (by rfl) (by intro x hx; go_simp; (first | done | exact rfl)) ?_
      simp only [List.set_cons_succ, List.set_cons_zero]
      refine lin_val (i := 63) (v := .bool true) rfl rfl (by rfl) (by intro x hx; go_simp; (first | done | exact rfl)) ?_
      simp only [List.set_cons_succ, List.set_cons_zero]
      refine lin_done ?_
      intro W11 hx
      replace HS := hid hx
      clear hx
      go_wp2
      exact bodyPost_ret (v := .bool true) (by simp [results, Try.results6, go_sem]) rfl ⟨rfl, HS.out.below⟩
  · replace h1 := hid h1
    refine lin_val (i := 16) (v := .pointer (some ⟨k2, 0, none⟩)) rfl rfl (by rfl) (by intro x hx; go_simp; (first | done | exact rfl)) ?_
    simp only [List.set_cons_succ, List.set_cons_zero]
    refine lin_val (i := 17) (v := .int .u64 (tn ((fromP x0.B.lo x0.B.hi).lo))) rfl rfl (by rfl) (by intro x hx; have f0 := hx.load 2 0 rfl rfl; go_simp; (first | done | exact rfl)) ?_
    simp only [List.set_cons_succ, List.set_cons_zero]
    refine lin_val (i := 18) (v := .pointer (some ⟨k1, 1, none⟩)) rfl rfl (by rfl) (by intro x hx; go_simp; (first | done | exact rfl)) ?_
    simp only [List.set_cons_succ, List.set_cons_zero]
    refine lin_val (i := 19) (v := .int .u64 (tn ((fromP x0.A.lo x0.A.hi).hi))) rfl rfl (by rfl) (by intro x hx; have f0 := hx.load 1 1 rfl rfl; go_simp; (first | done | exact rfl)) ?_
    simp only [List.set_cons_succ, List.set_cons_zero]
    refine lin_val (i := 20) (v := .bool (leU ((fromP x0.B.lo x0.B.hi).lo) ((fromP x0.A.lo x0.A.hi).hi))) rfl rfl (by rfl) (by intro x hx; go_simp; (first | done | exact leUT ((fromP x0.B.lo x0.B.hi).lo) ((fromP x0.A.lo x0.A.hi).hi) | exact congrArg _ (leUT ((fromP x0.B.lo x0.B.hi).lo) ((fromP x0.A.lo x0.A.hi).hi)) | (rw [leUT ((fromP x0.B.lo x0.B.hi).lo) ((fromP x0.A.lo x0.A.hi).hi)]; done) | (rw [leUT ((fromP x0.B.lo x0.B.hi).lo) ((fromP x0.A.lo x0.A.hi).hi)]; rfl))) ?_
    simp only [List.set_cons_succ, List.set_cons_zero]
    refine lin_val (i := 21) (v := .bool (leU ((fromP x0.B.lo x0.B.hi).lo) ((fromP x0.A.lo x0.A.hi).hi))) rfl rfl (by rfl) (by intro x hx; go_simp; (first | done | exact rfl)) ?_
    simp only [List.set_cons_succ, List.set_cons_zero]
    refine lin_val (i := 22) (v := .bool true) rfl rfl (by rfl) (by intro x hx; go_simp; (first | done | (first | exact meet_t HLA.out HLB.out h1.out | exact eq_of_beq (meet_t HLA.out HLB.out h1.out) | exact congrArg _ (meet_t HLA.out HLB.out h1.out) | (rw [meet_t HLA.out HLB.out h1.out]; done) | ((first | rfl | skip); rw [meet_t HLA.out HLB.out h1.out]) | exact congrArg tn (eq_of_beq (meet_t HLA.out HLB.out h1.out)) | exact congrArg ti (eq_of_beq (meet_t HLA.out HLB.out h1.out)) | exact congrArg tn (eq_of_bne (meet_t HLA.out HLB.out h1.out)) | simpa using (meet_t HLA.out HLB.out h1.out)))) ?_
    simp only [List.set_cons_succ, List.set_cons_zero]
    refine lin_val (i := 23) (v := .bool true) rfl rfl (by rfl) (by intro x hx; go_simp; (first | done | exact rfl)) ?_
    simp only [List.set_cons_succ, List.set_cons_zero]
    refine lin_val (i := 24) (v := .bool true) rfl rfl (by rfl) (by intro x hx; go_simp; (first | done | exact rfl)) ?_
    simp only [List.set_cons_succ, List.set_cons_zero]
    refine lin_val (i := 25) (v := .agg #[.int .u64 (tn ((fromP x0.B.lo x0.B.hi).lo)), .int .u64 (tn ((fromP x0.B.lo x0.B.hi).hi))]) rfl rfl (by rfl) (by intro x hx; have f0 := hx.load 2 0 rfl rfl; have f1 := hx.load 2 1 rfl rfl; go_simp; (first | done | exact rfl)) ?_
    simp only [List.set_cons_succ, List.set_cons_zero]
    refine lin_val (i := 26) (v := .int .u64 (tn (insideV (fromP x0.A.lo x0.A.hi) x0.V))) rfl rfl (by rfl) (by intro x hx; go_simp; (first | done | exact rfl)) ?_
    simp only [List.set_cons_succ, List.set_cons_zero]
    refine lin_call (i := 27) (f := 19) (args := #[.agg #[.int .u64 (tn ((fromP x0.B.lo x0.B.hi).lo)), .int .u64 (tn ((fromP x0.B.lo x0.B.hi).hi))], .int .u64 (tn (insideV (fromP x0.A.lo x0.A.hi) x0.V))]) (v := .bool (span_within_uint64 (P.mk (insideV (fromP x0.A.lo x0.A.hi) x0.V) (insideV (fromP x0.A.lo x0.A.hi) x0.V)) (fromP x0.B.lo x0.B.hi))) (st_ups _ _) rfl rfl (by rfl) (fun x hx => by kernel_rfl) (by intro x hx; exact span_In_any (fromP x0.B.lo x0.B.hi) (insideV (fromP x0.A.lo x0.A.hi) x0.V) _) ?_
    simp only [List.set_cons_succ, List.set_cons_zero]
    refine lin_val (i := 28) (v := .bool ((!(span_within_uint64 (P.mk (insideV (fromP x0.A.lo x0.A.hi) x0.V) (insideV (fromP x0.A.lo x0.A.hi) x0.V)) (fromP x0.B.lo x0.B.hi))))) rfl rfl (by rfl) (by intro x hx; go_simp; (first | done | exact rfl)) ?_
    simp only [List.set_cons_succ, List.set_cons_zero]
    refine lin_val (i := 29) (v := .bool ((!(span_within_uint64 (P.mk (insideV (fromP x0.A.lo x0.A.hi) x0.V) (insideV (fromP x0.A.lo x0.A.hi) x0.V)) (fromP x0.B.lo x0.B.hi))))) rfl rfl (by rfl) (by intro x hx; go_simp; (first | done | exact rfl)) ?_
    simp only [List.set_cons_succ, List.set_cons_zero]
    cases h2 : ((!(span_within_uint64 (P.mk (insideV (fromP x0.A.lo x0.A.hi) x0.V) (insideV (fromP x0.A.lo x0.A.hi) x0.V)) (fromP x0.B.lo x0.B.hi))))
    · replace h2 := hid h2
      refine lin_val (i := 30) (v := .bool ((span_meet_uint64 (fromP x0.A.lo x0.A.hi) (fromP x0.B.lo x0.B.hi)).2)) rfl rfl (by rfl) (by intro x hx; go_simp; (first | done | exact rfl)) ?_
      simp only [List.set_cons_succ, List.set_cons_zero]
      refine lin_val (i := 31) (v := .bool ((span_meet_uint64 (fromP x0.A.lo x0.A.hi) (fromP x0.B.lo x0.B.hi)).2)) rfl rfl (by rfl) (by intro x hx; go_simp; (first | done | exact rfl)) ?_
      simp only [List.set_cons_succ, List.set_cons_zero]
      rw [show ((span_meet_uint64 (fromP x0.A.lo x0.A.hi) (fromP x0.B.lo x0.B.hi)).2) = true from (meet_in' HA.out (of_in (nn h2.out))).1]
      refine lin_val (i := 32) (v := .agg #[.int .u64 (tn (((span_meet_uint64 (fromP x0.A.lo x0.A.hi) (fromP x0.B.lo x0.B.hi)).1).lo)), .int .u64 (tn (((span_meet_uint64 (fromP x0.A.lo x0.A.hi) (fromP x0.B.lo x0.B.hi)).1).hi))]) rfl rfl (by rfl) (by intro x hx; have f0 := hx.load 4 0 rfl rfl; have f1 := hx.load 4 1 rfl rfl; go_simp; (first | done | exact rfl)) ?_
      simp only [List.set_cons_succ, List.set_cons_zero]
      refine lin_val (i := 33) (v := .int .u64 (tn (insideV (fromP x0.A.lo x0.A.hi) x0.V))) rfl rfl (by rfl) (by intro x hx; go_simp; (first | done | exact rfl)) ?_
      simp only [List.set_cons_succ, List.set_cons_zero]
      refine lin_call (i := 34) (f := 19) (args := #[.agg #[.int .u64 (tn (((span_meet_uint64 (fromP x0.A.lo x0.A.hi) (fromP x0.B.lo x0.B.hi)).1).lo)), .int .u64 (tn (((span_meet_uint64 (fromP x0.A.lo x0.A.hi) (fromP x0.B.lo x0.B.hi)).1).hi))], .int .u64 (tn (insideV (fromP x0.A.lo x0.A.hi) x0.V))]) (v := .bool true) (st_ups _ _) rfl rfl (by rfl) (fun x hx => by kernel_rfl) (by intro x hx; exact calls_is (span_In_any ((span_meet_uint64 (fromP x0.A.lo x0.A.hi) (fromP x0.B.lo x0.B.hi)).1) (insideV (fromP x0.A.lo x0.A.hi) x0.V) _) (congrArg Value.bool (in_of (meet_in' HA.out (of_in (nn h2.out))).2))) ?_
      simp only [List.set_cons_succ, List.set_cons_zero]
      refine lin_val (i := 35) (v := .bool true) rfl rfl (by rfl) (by intro x hx; go_simp; (first | done | exact rfl)) ?_
      simp only [List.set_cons_succ, List.set_cons_zero]
      refine lin_val (i := 36) (v := .bool true) rfl rfl (by rfl) (by intro x hx; go_simp; (first | done | exact rfl)) ?_
      simp only [List.set_cons_succ, List.set_cons_zero]
      refine lin_val (i := 37) (v := .bool true) rfl rfl (by rfl) (by intro x hx; go_simp; (first | done | exact rfl)) ?_
      simp only [List.set_cons_succ, List.set_cons_zero]
      refine lin_val (i := 38) (v := .bool true) rfl rfl (by rfl) (by intro x hx; go_simp; (first | done | exact rfl)) ?_
      simp only [List.set_cons_succ, List.set_cons_zero]
      refine lin_val (i := 39) (v := .int .u64 (tn (insideV (fromP x0.A.lo x0.A.hi) x0.V))) rfl rfl (by rfl) (by intro x hx; go_simp; (first | done | exact rfl)) ?_
      simp only [List.set_cons_succ, List.set_cons_zero]
      refine lin_val (i := 40) (v := .pointer (some ⟨k5, 1, none⟩)) rfl rfl (by rfl) (by intro x hx; go_simp; (first | done | exact rfl)) ?_
      simp only [List.set_cons_succ, List.set_cons_zero]
      refine lin_val (i := 41) (v := .int .u64 (tn (onesV ((fromP x0.A.lo x0.A.hi).lo ^^^ (fromP x0.A.lo x0.A.hi).hi)))) rfl rfl (by rfl) (by intro x hx; have f0 := hx.load 5 1 rfl rfl; go_simp; (first | done | exact rfl)) ?_
      simp only [List.set_cons_succ, List.set_cons_zero]
      refine lin_val (i := 42) (v := .int .u64 (tn ((insideV (fromP x0.A.lo x0.A.hi) x0.V) &&& ~~~(onesV ((fromP x0.A.lo x0.A.hi).lo ^^^ (fromP x0.A.lo x0.A.hi).hi))))) rfl rfl (by rfl) (by intro x hx; go_simp; (first | done | exact andNotUT (insideV (fromP x0.A.lo x0.A.hi) x0.V) (onesV ((fromP x0.A.lo x0.A.hi).lo ^^^ (fromP x0.A.lo x0.A.hi).hi)) | exact congrArg _ (andNotUT (insideV (fromP x0.A.lo x0.A.hi) x0.V) (onesV ((fromP x0.A.lo x0.A.hi).lo ^^^ (fromP x0.A.lo x0.A.hi).hi))) | (rw [andNotUT (insideV (fromP x0.A.lo x0.A.hi) x0.V) (onesV ((fromP x0.A.lo x0.A.hi).lo ^^^ (fromP x0.A.lo x0.A.hi).hi))]; done) | (rw [andNotUT (insideV (fromP x0.A.lo x0.A.hi) x0.V) (onesV ((fromP x0.A.lo x0.A.hi).lo ^^^ (fromP x0.A.lo x0.A.hi).hi))]; rfl))) ?_
      simp only [List.set_cons_succ, List.set_cons_zero]
      refine lin_val (i := 43) (v := .pointer (some ⟨k5, 0, none⟩)) rfl rfl (by rfl) (by intro x hx; go_simp; (first | done | exact rfl)) ?_
      simp only [List.set_cons_succ, List.set_cons_zero]
      refine lin_val (i := 44) (v := .int .u64 (tn ((fromP x0.A.lo x0.A.hi).lo &&& ~~~(onesV ((fromP x0.A.lo x0.A.hi).lo ^^^ (fromP x0.A.lo x0.A.hi).hi))))) rfl rfl (by rfl) (by intro x hx; have f0 := hx.load 5 0 rfl rfl; go_simp; (first | done | exact rfl)) ?_
      simp only [List.set_cons_succ, List.set_cons_zero]
      refine lin_val (i := 45) (v := .bool true) rfl rfl (by rfl) (by intro x hx; go_simp; (first | done | (first | exact beq_iff_eq.2 (bits_in' HA.out) | exact eq_of_beq (beq_iff_eq.2 (bits_in' HA.out)) | exact congrArg _ (beq_iff_eq.2 (bits_in' HA.out)) | (rw [beq_iff_eq.2 (bits_in' HA.out)]; done) | ((first | rfl | exact eqUT ((insideV (fromP x0.A.lo x0.A.hi) x0.V) &&& ~~~(onesV ((fromP x0.A.lo x0.A.hi).lo ^^^ (fromP x0.A.lo x0.A.hi).hi))) ((fromP x0.A.lo x0.A.hi).lo &&& ~~~(onesV ((fromP x0.A.lo x0.A.hi).lo ^^^ (fromP x0.A.lo x0.A.hi).hi))) | exact congrArg _ (eqUT ((insideV (fromP x0.A.lo x0.A.hi) x0.V) &&& ~~~(onesV ((fromP x0.A.lo x0.A.hi).lo ^^^ (fromP x0.A.lo x0.A.hi).hi))) ((fromP x0.A.lo x0.A.hi).lo &&& ~~~(onesV ((fromP x0.A.lo x0.A.hi).lo ^^^ (fromP x0.A.lo x0.A.hi).hi)))) | (rw [eqUT ((insideV (fromP x0.A.lo x0.A.hi) x0.V) &&& ~~~(onesV ((fromP x0.A.lo x0.A.hi).lo ^^^ (fromP x0.A.lo x0.A.hi).hi))) ((fromP x0.A.lo x0.A.hi).lo &&& ~~~(onesV ((fromP x0.A.lo x0.A.hi).lo ^^^ (fromP x0.A.lo x0.A.hi).hi)))]; done) | (rw [eqUT ((insideV (fromP x0.A.lo x0.A.hi) x0.V) &&& ~~~(onesV ((fromP x0.A.lo x0.A.hi).lo ^^^ (fromP x0.A.lo x0.A.hi).hi))) ((fromP x0.A.lo x0.A.hi).lo &&& ~~~(onesV ((fromP x0.A.lo x0.A.hi).lo ^^^ (fromP x0.A.lo x0.A.hi).hi)))]; rfl)); rw [beq_iff_eq.2 (bits_in' HA.out)]) | exact congrArg tn (eq_of_beq (beq_iff_eq.2 (bits_in' HA.out))) | exact congrArg ti (eq_of_beq (beq_iff_eq.2 (bits_in' HA.out))) | exact congrArg tn (eq_of_bne (beq_iff_eq.2 (bits_in' HA.out))) | simpa using (beq_iff_eq.2 (bits_in' HA.out))))) ?_
      simp only [List.set_cons_succ, List.set_cons_zero]
      refine lin_val (i := 46) (v := .bool true) rfl rfl (by rfl) (by intro x hx; go_simp; (first | done | exact rfl)) ?_
      simp only [List.set_cons_succ, List.set_cons_zero]
      refine lin_val (i := 47) (v := .bool true) rfl rfl (by rfl) (by intro x hx; go_simp; (first | done | exact rfl)) ?_
      simp only [List.set_cons_succ, List.set_cons_zero]
      refine lin_val (i := 48) (v := .agg #[.int .u64 (tn ((fromP x0.A.lo x0.A.hi).lo &&& ~~~(onesV ((fromP x0.A.lo x0.A.hi).lo ^^^ (fromP x0.A.lo x0.A.hi).hi)))), .int .u64 (tn (onesV ((fromP x0.A.lo x0.A.hi).lo ^^^ (fromP x0.A.lo x0.A.hi).hi)))]) rfl rfl (by rfl) (by intro x hx; have f0 := hx.load 5 0 rfl rfl; have f1 := hx.load 5 1 rfl rfl; go_simp; (first | done | exact rfl)) ?_
      simp only [List.set_cons_succ, List.set_cons_zero]
      refine lin_call (i := 49) (f := 75) (args := #[.agg #[.int .u64 (tn ((fromP x0.A.lo x0.A.hi).lo &&& ~~~(onesV ((fromP x0.A.lo x0.A.hi).lo ^^^ (fromP x0.A.lo x0.A.hi).hi)))), .int .u64 (tn (onesV ((fromP x0.A.lo x0.A.hi).lo ^^^ (fromP x0.A.lo x0.A.hi).hi)))]]) (v := .agg #[.int .u64 (tn ((P.mk ((fromP x0.A.lo x0.A.hi).lo &&& ~~~(onesV ((fromP x0.A.lo x0.A.hi).lo ^^^ (fromP x0.A.lo x0.A.hi).hi))) (onesV ((fromP x0.A.lo x0.A.hi).lo ^^^ (fromP x0.A.lo x0.A.hi).hi))).lo)), .int .u64 (tn ((P.mk ((fromP x0.A.lo x0.A.hi).lo &&& ~~~(onesV ((fromP x0.A.lo x0.A.hi).lo ^^^ (fromP x0.A.lo x0.A.hi).hi))) (onesV ((fromP x0.A.lo x0.A.hi).lo ^^^ (fromP x0.A.lo x0.A.hi).hi))).lo ||| (P.mk ((fromP x0.A.lo x0.A.hi).lo &&& ~~~(onesV ((fromP x0.A.lo x0.A.hi).lo ^^^ (fromP x0.A.lo x0.A.hi).hi))) (onesV ((fromP x0.A.lo x0.A.hi).lo ^^^ (fromP x0.A.lo x0.A.hi).hi))).hi))]) (st_ups _ _) rfl rfl (by rfl) (fun x hx => by kernel_rfl) (by intro x hx; exact span_Bounds_any (P.mk ((fromP x0.A.lo x0.A.hi).lo &&& ~~~(onesV ((fromP x0.A.lo x0.A.hi).lo ^^^ (fromP x0.A.lo x0.A.hi).hi))) (onesV ((fromP x0.A.lo x0.A.hi).lo ^^^ (fromP x0.A.lo x0.A.hi).hi))) _) ?_
      simp only [List.set_cons_succ, List.set_cons_zero]
      refine lin_val (i := 50) (v := .int .u64 (tn (insideV (fromP x0.A.lo x0.A.hi) x0.V))) rfl rfl (by rfl) (by intro x hx; go_simp; (first | done | exact rfl)) ?_
      simp only [List.set_cons_succ, List.set_cons_zero]
      refine lin_call (i := 51) (f := 19) (args := #[.agg #[.int .u64 (tn ((P.mk ((fromP x0.A.lo x0.A.hi).lo &&& ~~~(onesV ((fromP x0.A.lo x0.A.hi).lo ^^^ (fromP x0.A.lo x0.A.hi).hi))) (onesV ((fromP x0.A.lo x0.A.hi).lo ^^^ (fromP x0.A.lo x0.A.hi).hi))).lo)), .int .u64 (tn ((P.mk ((fromP x0.A.lo x0.A.hi).lo &&& ~~~(onesV ((fromP x0.A.lo x0.A.hi).lo ^^^ (fromP x0.A.lo x0.A.hi).hi))) (onesV ((fromP x0.A.lo x0.A.hi).lo ^^^ (fromP x0.A.lo x0.A.hi).hi))).lo ||| (P.mk ((fromP x0.A.lo x0.A.hi).lo &&& ~~~(onesV ((fromP x0.A.lo x0.A.hi).lo ^^^ (fromP x0.A.lo x0.A.hi).hi))) (onesV ((fromP x0.A.lo x0.A.hi).lo ^^^ (fromP x0.A.lo x0.A.hi).hi))).hi))], .int .u64 (tn (insideV (fromP x0.A.lo x0.A.hi) x0.V))]) (v := .bool true) (st_ups _ _) rfl rfl (by rfl) (fun x hx => by kernel_rfl) (by intro x hx; exact calls_is (span_In_any (P.mk ((P.mk ((fromP x0.A.lo x0.A.hi).lo &&& ~~~(onesV ((fromP x0.A.lo x0.A.hi).lo ^^^ (fromP x0.A.lo x0.A.hi).hi))) (onesV ((fromP x0.A.lo x0.A.hi).lo ^^^ (fromP x0.A.lo x0.A.hi).hi))).lo) ((P.mk ((fromP x0.A.lo x0.A.hi).lo &&& ~~~(onesV ((fromP x0.A.lo x0.A.hi).lo ^^^ (fromP x0.A.lo x0.A.hi).hi))) (onesV ((fromP x0.A.lo x0.A.hi).lo ^^^ (fromP x0.A.lo x0.A.hi).hi))).lo ||| (P.mk ((fromP x0.A.lo x0.A.hi).lo &&& ~~~(onesV ((fromP x0.A.lo x0.A.hi).lo ^^^ (fromP x0.A.lo x0.A.hi).hi))) (onesV ((fromP x0.A.lo x0.A.hi).lo ^^^ (fromP x0.A.lo x0.A.hi).hi))).hi)) (insideV (fromP x0.A.lo x0.A.hi) x0.V) _) (congrArg Value.bool (in_of (tnum_in (bits_in' HA.out))))) ?_
      simp only [List.set_cons_succ, List.set_cons_zero]
      refine lin_val (i := 52) (v := .bool true) rfl rfl (by rfl) (by intro x hx; go_simp; (first | done | exact rfl)) ?_
      simp only [List.set_cons_succ, List.set_cons_zero]
      refine lin_val (i := 53) (v := .bool true) rfl rfl (by rfl) (by intro x hx; go_simp; (first | done | exact rfl)) ?_
      simp only [List.set_cons_succ, List.set_cons_zero]
      refine lin_val (i := 54) (v := .agg #[.int .u64 (tn ((fromP x0.A.lo x0.A.hi).lo)), .int .u64 (tn ((fromP x0.A.lo x0.A.hi).hi))]) rfl rfl (by rfl) (by intro x hx; have f0 := hx.load 1 0 rfl rfl; have f1 := hx.load 1 1 rfl rfl; go_simp; (first | done | exact rfl)) ?_
      simp only [List.set_cons_succ, List.set_cons_zero]
      refine lin_call (i := 55) (f := 68) (args := #[.agg #[.int .u64 (tn ((fromP x0.A.lo x0.A.hi).lo)), .int .u64 (tn ((fromP x0.A.lo x0.A.hi).hi))]]) (v := .agg #[.int .i64 (ti ((span_ToSigned (fromP x0.A.lo x0.A.hi)).lo)), .int .i64 (ti ((span_ToSigned (fromP x0.A.lo x0.A.hi)).hi))]) (st_ups _ _) rfl rfl (by rfl) (fun x hx => by kernel_rfl) (by intro x hx; exact span_ToSigned_any (fromP x0.A.lo x0.A.hi) _) ?_
      simp only [List.set_cons_succ, List.set_cons_zero]
      refine lin_val (i := 56) (v := .int .u64 (tn (insideV (fromP x0.A.lo x0.A.hi) x0.V))) rfl rfl (by rfl) (by intro x hx; go_simp; (first | done | exact rfl)) ?_
      simp only [List.set_cons_succ, List.set_cons_zero]
      refine lin_val (i := 57) (v := .int .i64 (ti (insideV (fromP x0.A.lo x0.A.hi) x0.V))) rfl rfl (by rfl) (by intro x hx; go_simp; (first | done | exact toI64 (insideV (fromP x0.A.lo x0.A.hi) x0.V) | exact congrArg _ (toI64 (insideV (fromP x0.A.lo x0.A.hi) x0.V)) | (rw [toI64 (insideV (fromP x0.A.lo x0.A.hi) x0.V)]; done) | (rw [toI64 (insideV (fromP x0.A.lo x0.A.hi) x0.V)]; rfl))) ?_
      simp only [List.set_cons_succ, List.set_cons_zero]
      refine lin_call (i := 58) (f := 54) (args := #[.agg #[.int .i64 (ti ((span_ToSigned (fromP x0.A.lo x0.A.hi)).lo)), .int .i64 (ti ((span_ToSigned (fromP x0.A.lo x0.A.hi)).hi))], .int .i64 (ti (insideV (fromP x0.A.lo x0.A.hi) x0.V))]) (v := .bool true) (st_ups _ _) rfl rfl (by rfl) (fun x hx => by kernel_rfl) (by intro x hx; exact calls_is (span_Sin_any (span_ToSigned (fromP x0.A.lo x0.A.hi)) (insideV (fromP x0.A.lo x0.A.hi) x0.V) _) (congrArg Value.bool (sin_of (toSigned_in HA.out)))) ?_
      simp only [List.set_cons_succ, List.set_cons_zero]
      refine lin_val (i := 59) (v := .bool true) rfl rfl (by rfl) (by intro x hx; go_simp; (first | done | exact rfl)) ?_
      simp only [List.set_cons_succ, List.set_cons_zero]
      refine lin_val (i := 60) (v := .bool true) rfl rfl (by rfl) (by intro x hx; go_simp; (first | done | exact rfl)) ?_
      simp only [List.set_cons_succ, List.set_cons_zero]
      refine lin_call (i := 61) (f := 12) (args := #[]) (v := .bool true) (st_ups _ _) rfl rfl (by rfl) (fun x hx => by kernel_rfl) (by intro x hx; exact law_known_any _) ?_
      simp only [List.set_cons_succ, List.set_cons_zero]
      refine lin_val (i := 62) (v := .bool true) rfl rfl (by rfl) (by intro x hx; go_simp; (first | done | exact rfl)) ?_
      simp only [List.set_cons_succ, List.set_cons_zero]
      refine lin_val (i := 63) (v := .bool true) rfl rfl (by rfl) (by intro x hx; go_simp; (first | done | exact rfl)) ?_
      simp only [List.set_cons_succ, List.set_cons_zero]
      refine lin_done ?_
      intro W11 hx
      replace HS := hid hx
      clear hx
      go_wp2
      exact bodyPost_ret (v := .bool true) (by simp [results, Try.results6, go_sem]) rfl ⟨rfl, HS.out.below⟩
    · replace h2 := hid h2
      refine lin_no (i := 30) rfl rfl (by kernel_rfl) ?_
      simp only [List.set_cons_succ, List.set_cons_zero]
      refine lin_no (i := 31) rfl rfl (by kernel_rfl) ?_
      simp only [List.set_cons_succ, List.set_cons_zero]
      refine lin_no (i := 32) rfl rfl (by kernel_rfl) ?_
      simp only [List.set_cons_succ, List.set_cons_zero]
      refine lin_no (i := 33) rfl rfl (by kernel_rfl) ?_
      simp only [List.set_cons_succ, List.set_cons_zero]
      refine lin_no (i := 34) rfl rfl (by kernel_rfl) ?_
      simp only [List.set_cons_succ, List.set_cons_zero]
      refine lin_no (i := 35) rfl rfl (by kernel_rfl) ?_
      simp only [List.set_cons_succ, List.set_cons_zero]
      refine lin_val (i := 36) (v := .bool true) rfl rfl (by rfl) (by intro x hx; go_simp; (first | done | exact rfl)) ?_
      simp only [List.set_cons_succ, List.set_cons_zero]
      refine lin_val (i := 37) (v := .bool true) rfl rfl (by rfl) (by intro x hx; go_simp; (first | done | exact rfl)) ?_
      simp only [List.set_cons_succ, List.set_cons_zero]
      refine lin_val (i := 38) (v := .bool true) rfl rfl (by rfl) (by intro x hx; go_simp; (first | done | exact rfl)) ?_
      simp only [List.set_cons_succ, List.set_cons_zero]
      refine lin_val (i := 39) (v := .int .u64 (tn (insideV (fromP x0.A.lo x0.A.hi) x0.V))) rfl rfl (by rfl) (by intro x hx; go_simp; (first | done | exact rfl)) ?_
      simp only [List.set_cons_succ, List.set_cons_zero]
      refine lin_val (i := 40) (v := .pointer (some ⟨k5, 1, none⟩)) rfl rfl (by rfl) (by intro x hx; go_simp; (first | done | exact rfl)) ?_
      simp only [List.set_cons_succ, List.set_cons_zero]
      refine lin_val (i := 41) (v := .int .u64 (tn (onesV ((fromP x0.A.lo x0.A.hi).lo ^^^ (fromP x0.A.lo x0.A.hi).hi)))) rfl rfl (by rfl) (by intro x hx; have f0 := hx.load 5 1 rfl rfl; go_simp; (first | done | exact rfl)) ?_
      simp only [List.set_cons_succ, List.set_cons_zero]
      refine lin_val (i := 42) (v := .int .u64 (tn ((insideV (fromP x0.A.lo x0.A.hi) x0.V) &&& ~~~(onesV ((fromP x0.A.lo x0.A.hi).lo ^^^ (fromP x0.A.lo x0.A.hi).hi))))) rfl rfl (by rfl) (by intro x hx; go_simp; (first | done | exact andNotUT (insideV (fromP x0.A.lo x0.A.hi) x0.V) (onesV ((fromP x0.A.lo x0.A.hi).lo ^^^ (fromP x0.A.lo x0.A.hi).hi)) | exact congrArg _ (andNotUT (insideV (fromP x0.A.lo x0.A.hi) x0.V) (onesV ((fromP x0.A.lo x0.A.hi).lo ^^^ (fromP x0.A.lo x0.A.hi).hi))) | (rw [andNotUT (insideV (fromP x0.A.lo x0.A.hi) x0.V) (onesV ((fromP x0.A.lo x0.A.hi).lo ^^^ (fromP x0.A.lo x0.A.hi).hi))]; done) | (rw [andNotUT (insideV (fromP x0.A.lo x0.A.hi) x0.V) (onesV ((fromP x0.A.lo x0.A.hi).lo ^^^ (fromP x0.A.lo x0.A.hi).hi))]; rfl))) ?_
      simp only [List.set_cons_succ, List.set_cons_zero]
      refine lin_val (i := 43) (v := .pointer (some ⟨k5, 0, none⟩)) rfl rfl (by rfl) (by intro x hx; go_simp; (first | done | exact rfl)) ?_
      simp only [List.set_cons_succ, List.set_cons_zero]
      refine lin_val (i := 44) (v := .int .u64 (tn ((fromP x0.A.lo x0.A.hi).lo &&& ~~~(onesV ((fromP x0.A.lo x0.A.hi).lo ^^^ (fromP x0.A.lo x0.A.hi).hi))))) rfl rfl (by rfl) (by intro x hx; have f0 := hx.load 5 0 rfl rfl; go_simp; (first | done | exact rfl)) ?_
      simp only [List.set_cons_succ, List.set_cons_zero]
      refine lin_val (i := 45) (v := .bool true) rfl rfl (by rfl) (by intro x hx; go_simp; (first | done | (first | exact beq_iff_eq.2 (bits_in' HA.out) | exact eq_of_beq (beq_iff_eq.2 (bits_in' HA.out)) | exact congrArg _ (beq_iff_eq.2 (bits_in' HA.out)) | (rw [beq_iff_eq.2 (bits_in' HA.out)]; done) | ((first | rfl | exact eqUT ((insideV (fromP x0.A.lo x0.A.hi) x0.V) &&& ~~~(onesV ((fromP x0.A.lo x0.A.hi).lo ^^^ (fromP x0.A.lo x0.A.hi).hi))) ((fromP x0.A.lo x0.A.hi).lo &&& ~~~(onesV ((fromP x0.A.lo x0.A.hi).lo ^^^ (fromP x0.A.lo x0.A.hi).hi))) | exact congrArg _ (eqUT ((insideV (fromP x0.A.lo x0.A.hi) x0.V) &&& ~~~(onesV ((fromP x0.A.lo x0.A.hi).lo ^^^ (fromP x0.A.lo x0.A.hi).hi))) ((fromP x0.A.lo x0.A.hi).lo &&& ~~~(onesV ((fromP x0.A.lo x0.A.hi).lo ^^^ (fromP x0.A.lo x0.A.hi).hi)))) | (rw [eqUT ((insideV (fromP x0.A.lo x0.A.hi) x0.V) &&& ~~~(onesV ((fromP x0.A.lo x0.A.hi).lo ^^^ (fromP x0.A.lo x0.A.hi).hi))) ((fromP x0.A.lo x0.A.hi).lo &&& ~~~(onesV ((fromP x0.A.lo x0.A.hi).lo ^^^ (fromP x0.A.lo x0.A.hi).hi)))]; done) | (rw [eqUT ((insideV (fromP x0.A.lo x0.A.hi) x0.V) &&& ~~~(onesV ((fromP x0.A.lo x0.A.hi).lo ^^^ (fromP x0.A.lo x0.A.hi).hi))) ((fromP x0.A.lo x0.A.hi).lo &&& ~~~(onesV ((fromP x0.A.lo x0.A.hi).lo ^^^ (fromP x0.A.lo x0.A.hi).hi)))]; rfl)); rw [beq_iff_eq.2 (bits_in' HA.out)]) | exact congrArg tn (eq_of_beq (beq_iff_eq.2 (bits_in' HA.out))) | exact congrArg ti (eq_of_beq (beq_iff_eq.2 (bits_in' HA.out))) | exact congrArg tn (eq_of_bne (beq_iff_eq.2 (bits_in' HA.out))) | simpa using (beq_iff_eq.2 (bits_in' HA.out))))) ?_
      simp only [List.set_cons_succ, List.set_cons_zero]
      refine lin_val (i := 46) (v := .bool true) rfl rfl (by rfl) (by intro x hx; go_simp; (first | done | exact rfl)) ?_
      simp only [List.set_cons_succ, List.set_cons_zero]
      refine lin_val (i := 47) (v := .bool true) rfl rfl (by rfl) (by intro x hx; go_simp; (first | done | exact rfl)) ?_
      simp only [List.set_cons_succ, List.set_cons_zero]
      refine lin_val (i := 48) (v := .agg #[.int .u64 (tn ((fromP x0.A.lo x0.A.hi).lo &&& ~~~(onesV ((fromP x0.A.lo x0.A.hi).lo ^^^ (fromP x0.A.lo x0.A.hi).hi)))), .int .u64 (tn (onesV ((fromP x0.A.lo x0.A.hi).lo ^^^ (fromP x0.A.lo x0.A.hi).hi)))]) rfl rfl (by rfl) (by intro x hx; have f0 := hx.load 5 0 rfl rfl; have f1 := hx.load 5 1 rfl rfl; go_simp; (first | done | exact rfl)) ?_
      simp only [List.set_cons_succ, List.set_cons_zero]
      refine lin_call (i := 49) (f := 75) (args := #[.agg #[.int .u64 (tn ((fromP x0.A.lo x0.A.hi).lo &&& ~~~(onesV ((fromP x0.A.lo x0.A.hi).lo ^^^ (fromP x0.A.lo x0.A.hi).hi)))), .int .u64 (tn (onesV ((fromP x0.A.lo x0.A.hi).lo ^^^ (fromP x0.A.lo x0.A.hi).hi)))]]) (v := .agg #[.int .u64 (tn ((P.mk ((fromP x0.A.lo x0.A.hi).lo &&& ~~~(onesV ((fromP x0.A.lo x0.A.hi).lo ^^^ (fromP x0.A.lo x0.A.hi).hi))) (onesV ((fromP x0.A.lo x0.A.hi).lo ^^^ (fromP x0.A.lo x0.A.hi).hi))).lo)), .int .u64 (tn ((P.mk ((fromP x0.A.lo x0.A.hi).lo &&& ~~~(onesV ((fromP x0.A.lo x0.A.hi).lo ^^^ (fromP x0.A.lo x0.A.hi).hi))) (onesV ((fromP x0.A.lo x0.A.hi).lo ^^^ (fromP x0.A.lo x0.A.hi).hi))).lo ||| (P.mk ((fromP x0.A.lo x0.A.hi).lo &&& ~~~(onesV ((fromP x0.A.lo x0.A.hi).lo ^^^ (fromP x0.A.lo x0.A.hi).hi))) (onesV ((fromP x0.A.lo x0.A.hi).lo ^^^ (fromP x0.A.lo x0.A.hi).hi))).hi))]) (st_ups _ _) rfl rfl (by rfl) (fun x hx => by kernel_rfl) (by intro x hx; exact span_Bounds_any (P.mk ((fromP x0.A.lo x0.A.hi).lo &&& ~~~(onesV ((fromP x0.A.lo x0.A.hi).lo ^^^ (fromP x0.A.lo x0.A.hi).hi))) (onesV ((fromP x0.A.lo x0.A.hi).lo ^^^ (fromP x0.A.lo x0.A.hi).hi))) _) ?_
      simp only [List.set_cons_succ, List.set_cons_zero]
      refine lin_val (i := 50) (v := .int .u64 (tn (insideV (fromP x0.A.lo x0.A.hi) x0.V))) rfl rfl (by rfl) (by intro x hx; go_simp; (first | done | exact rfl)) ?_
      simp only [List.set_cons_succ, List.set_cons_zero]
      refine lin_call (i := 51) (f := 19) (args := #[.agg #[.int .u64 (tn ((P.mk ((fromP x0.A.lo x0.A.hi).lo &&& ~~~(onesV ((fromP x0.A.lo x0.A.hi).lo ^^^ (fromP x0.A.lo x0.A.hi).hi))) (onesV ((fromP x0.A.lo x0.A.hi).lo ^^^ (fromP x0.A.lo x0.A.hi).hi))).lo)), .int .u64 (tn ((P.mk ((fromP x0.A.lo x0.A.hi).lo &&& ~~~(onesV ((fromP x0.A.lo x0.A.hi).lo ^^^ (fromP x0.A.lo x0.A.hi).hi))) (onesV ((fromP x0.A.lo x0.A.hi).lo ^^^ (fromP x0.A.lo x0.A.hi).hi))).lo ||| (P.mk ((fromP x0.A.lo x0.A.hi).lo &&& ~~~(onesV ((fromP x0.A.lo x0.A.hi).lo ^^^ (fromP x0.A.lo x0.A.hi).hi))) (onesV ((fromP x0.A.lo x0.A.hi).lo ^^^ (fromP x0.A.lo x0.A.hi).hi))).hi))], .int .u64 (tn (insideV (fromP x0.A.lo x0.A.hi) x0.V))]) (v := .bool true) (st_ups _ _) rfl rfl (by rfl) (fun x hx => by kernel_rfl) (by intro x hx; exact calls_is (span_In_any (P.mk ((P.mk ((fromP x0.A.lo x0.A.hi).lo &&& ~~~(onesV ((fromP x0.A.lo x0.A.hi).lo ^^^ (fromP x0.A.lo x0.A.hi).hi))) (onesV ((fromP x0.A.lo x0.A.hi).lo ^^^ (fromP x0.A.lo x0.A.hi).hi))).lo) ((P.mk ((fromP x0.A.lo x0.A.hi).lo &&& ~~~(onesV ((fromP x0.A.lo x0.A.hi).lo ^^^ (fromP x0.A.lo x0.A.hi).hi))) (onesV ((fromP x0.A.lo x0.A.hi).lo ^^^ (fromP x0.A.lo x0.A.hi).hi))).lo ||| (P.mk ((fromP x0.A.lo x0.A.hi).lo &&& ~~~(onesV ((fromP x0.A.lo x0.A.hi).lo ^^^ (fromP x0.A.lo x0.A.hi).hi))) (onesV ((fromP x0.A.lo x0.A.hi).lo ^^^ (fromP x0.A.lo x0.A.hi).hi))).hi)) (insideV (fromP x0.A.lo x0.A.hi) x0.V) _) (congrArg Value.bool (in_of (tnum_in (bits_in' HA.out))))) ?_
      simp only [List.set_cons_succ, List.set_cons_zero]
      refine lin_val (i := 52) (v := .bool true) rfl rfl (by rfl) (by intro x hx; go_simp; (first | done | exact rfl)) ?_
      simp only [List.set_cons_succ, List.set_cons_zero]
      refine lin_val (i := 53) (v := .bool true) rfl rfl (by rfl) (by intro x hx; go_simp; (first | done | exact rfl)) ?_
      simp only [List.set_cons_succ, List.set_cons_zero]
      refine lin_val (i := 54) (v := .agg #[.int .u64 (tn ((fromP x0.A.lo x0.A.hi).lo)), .int .u64 (tn ((fromP x0.A.lo x0.A.hi).hi))]) rfl rfl (by rfl) (by intro x hx; have f0 := hx.load 1 0 rfl rfl; have f1 := hx.load 1 1 rfl rfl; go_simp; (first | done | exact rfl)) ?_
      simp only [List.set_cons_succ, List.set_cons_zero]
      refine lin_call (i := 55) (f := 68) (args := #[.agg #[.int .u64 (tn ((fromP x0.A.lo x0.A.hi).lo)), .int .u64 (tn ((fromP x0.A.lo x0.A.hi).hi))]]) (v := .agg #[.int .i64 (ti ((span_ToSigned (fromP x0.A.lo x0.A.hi)).lo)), .int .i64 (ti ((span_ToSigned (fromP x0.A.lo x0.A.hi)).hi))]) (st_ups _ _) rfl rfl (by rfl) (fun x hx => by kernel_rfl) (by intro x hx; exact span_ToSigned_any (fromP x0.A.lo x0.A.hi) _) ?_
      simp only [List.set_cons_succ, List.set_cons_zero]
      refine lin_val (i := 56) (v := .int .u64 (tn (insideV (fromP x0.A.lo x0.A.hi) x0.V))) rfl rfl (by rfl) (by intro x hx; go_simp; (first | done | exact rfl)) ?_
      simp only [List.set_cons_succ, List.set_cons_zero]
      refine lin_val (i := 57) (v := .int .i64 (ti (insideV (fromP x0.A.lo x0.A.hi) x0.V))) rfl rfl (by rfl) (by intro x hx; go_simp; (first | done | exact toI64 (insideV (fromP x0.A.lo x0.A.hi) x0.V) | exact congrArg _ (toI64 (insideV (fromP x0.A.lo x0.A.hi) x0.V)) | (rw [toI64 (insideV (fromP x0.A.lo x0.A.hi) x0.V)]; done) | (rw [toI64 (insideV (fromP x0.A.lo x0.A.hi) x0.V)]; rfl))) ?_
      simp only [List.set_cons_succ, List.set_cons_zero]
      refine lin_call (i := 58) (f := 54) (args := #[.agg #[.int .i64 (ti ((span_ToSigned (fromP x0.A.lo x0.A.hi)).lo)), .int .i64 (ti ((span_ToSigned (fromP x0.A.lo x0.A.hi)).hi))], .int .i64 (ti (insideV (fromP x0.A.lo x0.A.hi) x0.V))]) (v := .bool true) (st_ups _ _) rfl rfl (by rfl) (fun x hx => by kernel_rfl) (by intro x hx; exact calls_is (span_Sin_any (span_ToSigned (fromP x0.A.lo x0.A.hi)) (insideV (fromP x0.A.lo x0.A.hi) x0.V) _) (congrArg Value.bool (sin_of (toSigned_in HA.out)))) ?_
      simp only [List.set_cons_succ, List.set_cons_zero]
      refine lin_val (i := 59) (v := .bool true) rfl rfl (by rfl) (by intro x hx; go_simp; (first | done | exact rfl)) ?_
      simp only [List.set_cons_succ, List.set_cons_zero]
      refine lin_val (i := 60) (v := .bool true) rfl rfl (by rfl) (by intro x hx; go_simp; (first | done | exact rfl)) ?_
      simp only [List.set_cons_succ, List.set_cons_zero]
      refine lin_call (i := 61) (f := 12) (args := #[]) (v := .bool true) (st_ups _ _) rfl rfl (by rfl) (fun x hx => by kernel_rfl) (by intro x hx; exact law_known_any _) ?_
      simp only [List.set_cons_succ, List.set_cons_zero]
      refine lin_val (i := 62) (v := .bool true) rfl rfl (by rfl) (by intro x hx; go_simp; (first | done | exact rfl)) ?_
      simp only [List.set_cons_succ, List.set_cons_zero]
      refine lin_val (i := 63) (v := .bool true) rfl rfl (by rfl) (by intro x hx; go_simp; (first | done | exact rfl)) ?_
      simp only [List.set_cons_succ, List.set_cons_zero]
      refine lin_done ?_
      intro W11 hx
      replace HS := hid hx
      clear hx
      go_wp2
      exact bodyPost_ret (v := .bool true) (by simp [results, Try.results6, go_sem]) rfl ⟨rfl, HS.out.below⟩
end Go.Proofs.Ytoojdndfjfmemaa.Sp
