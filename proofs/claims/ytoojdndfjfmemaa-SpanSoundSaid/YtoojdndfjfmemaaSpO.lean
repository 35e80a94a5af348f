/-
  From what the claim's form reads to what the walks are told.
-/
import Derived.OpenShut
import Derived.Deep.Slices
import Derived.Test.YtoojdndfjfmemaaOps
import Derived.Test.YtoojdndfjfmemaaSpP
namespace Go.Proofs.Ytoojdndfjfmemaa.Sp
open Go.RowKit Go.Proofs.Ytoojdndfjfmemaa.Num Go.Proofs.Ytoojdndfjfmemaa.Up Go.ChangeShapes Go.WideShapes Go.Deep
section
variable {H : Type} {enc : TypeId × Value → H} {w : World} {base : Nat} {spare : Nat → Bool} {held : Bool}
theorem u64_tn {a : Int} (h : (Lit.int .u64 a).wf = true) : Value.int .u64 a = .int .u64 (tn (b64 a)) := by rw [tn_b64 _ (bounds_u64 h).1 (bounds_u64 h).2]
theorem i64_ti {a : Int} (h : (Lit.int .i64 a).wf = true) : Value.int .i64 a = .int .i64 (ti (b64 a)) := by
  have b := bounds_i64 h
  have e : ti (b64 a) = a := by
    rw [← wrapI, IntKind.wrap_i64]
    omega
  rw [e]
theorem one_u64_22 {n : Nat} {cs : List Value} {y : Option (DataW H × List MemPlace)} {c : Value} (hc : cs = [c]) (hy : ∃ z, y = some z) (h : DataW.trod enc Try.prog w base spare held n 22 cs = y) : ∃ a : BitVec 64, c = .int .u64 (tn a) := by
  obtain ⟨z, rfl⟩ := hy
  obtain ⟨a, ha, _, hw⟩ := DataW.trod_int Try.underlying22 h
  rw [hc] at ha
  injection ha with ha
  exact ⟨b64 a, ha.trans (u64_tn hw)⟩
set_option maxRecDepth 100000 in
theorem cells_24 {fuel : Nat} {cs : List Value} {y : DataW H × List MemPlace} (h : DataW.trod enc Try.prog w base spare held fuel 24 cs = some y) : ∃ x : P, cs = [.int .u64 (tn (x.lo)), .int .u64 (tn (x.hi))] := by
  obtain ⟨xs, n, _, _, hl, hx, hg⟩ := DataW.trod_struct Try.underlying24 h
  rw [show Try.prog.cellsOf 24 = 2 by kernel_rfl] at hl
  have hxl : xs.length = 2 := hx
  match cs, hl with
  | [c0, c1], _ =>
    have some_at : ∀ i, i < 2 → ∃ z, xs[i]? = some z := fun i hi => ⟨_, List.getElem?_eq_getElem (by omega)⟩
    have g0 : DataW.trod enc Try.prog w base spare held n 22 (([c0, c1].drop 0).take (Try.prog.cellsOf 22)) = xs[0]? := hg 0 _ rfl
    rw [show Try.prog.cellsOf 22 = 1 by kernel_rfl] at g0
    have g1 : DataW.trod enc Try.prog w base spare held n 22 (([c0, c1].drop 1).take (Try.prog.cellsOf 22)) = xs[1]? := hg 1 _ rfl
    rw [show Try.prog.cellsOf 22 = 1 by kernel_rfl] at g1
    obtain ⟨a0, rfl⟩ := one_u64_22 rfl (some_at 0 (by omega)) g0
    obtain ⟨a1, rfl⟩ := one_u64_22 rfl (some_at 1 (by omega)) g1
    exact ⟨⟨a0, a1⟩, rfl⟩
set_option maxRecDepth 100000 in
theorem open_24 {r : Reach} {b0 : Nat} {v : Value} {d : DataW H} {p : List MemPlace} (hv : Value.okWide Try.prog w r b0 24 v) (h : DataW.Trod enc Try.prog w base spare held 24 v d p) : ∃ x : P, v = .agg #[.int .u64 (tn (x.lo)), .int .u64 (tn (x.hi))] := by
  obtain ⟨cs, rfl, _⟩ := okWide_struct Try.underlying24 hv
  obtain ⟨fuel, hf⟩ := h
  obtain ⟨x, hx⟩ := cells_24 hf
  refine ⟨x, ?_⟩
  have e : cs.toList = [.int .u64 (tn (x.lo)), .int .u64 (tn (x.hi))] := by simpa [Value.cells] using hx
  congr 1
  exact Array.toList_inj.1 (by rw [e])
theorem one_i64_2 {n : Nat} {cs : List Value} {y : Option (DataW H × List MemPlace)} {c : Value} (hc : cs = [c]) (hy : ∃ z, y = some z) (h : DataW.trod enc Try.prog w base spare held n 2 cs = y) : ∃ a : BitVec 64, c = .int .i64 (ti a) := by
  obtain ⟨z, rfl⟩ := hy
  obtain ⟨a, ha, _, hw⟩ := DataW.trod_int Try.underlying2 h
  rw [hc] at ha
  injection ha with ha
  exact ⟨b64 a, ha.trans (i64_ti hw)⟩
set_option maxRecDepth 100000 in
theorem cells_38 {fuel : Nat} {cs : List Value} {y : DataW H × List MemPlace} (h : DataW.trod enc Try.prog w base spare held fuel 38 cs = some y) : ∃ x : P, cs = [.int .i64 (ti (x.lo)), .int .i64 (ti (x.hi))] := by
  obtain ⟨xs, n, _, _, hl, hx, hg⟩ := DataW.trod_struct Try.underlying38 h
  rw [show Try.prog.cellsOf 38 = 2 by kernel_rfl] at hl
  have hxl : xs.length = 2 := hx
  match cs, hl with
  | [c0, c1], _ =>
    have some_at : ∀ i, i < 2 → ∃ z, xs[i]? = some z := fun i hi => ⟨_, List.getElem?_eq_getElem (by omega)⟩
    have g0 : DataW.trod enc Try.prog w base spare held n 2 (([c0, c1].drop 0).take (Try.prog.cellsOf 2)) = xs[0]? := hg 0 _ rfl
    rw [show Try.prog.cellsOf 2 = 1 by kernel_rfl] at g0
    have g1 : DataW.trod enc Try.prog w base spare held n 2 (([c0, c1].drop 1).take (Try.prog.cellsOf 2)) = xs[1]? := hg 1 _ rfl
    rw [show Try.prog.cellsOf 2 = 1 by kernel_rfl] at g1
    obtain ⟨a0, rfl⟩ := one_i64_2 rfl (some_at 0 (by omega)) g0
    obtain ⟨a1, rfl⟩ := one_i64_2 rfl (some_at 1 (by omega)) g1
    exact ⟨⟨a0, a1⟩, rfl⟩
set_option maxRecDepth 100000 in
theorem open_38 {r : Reach} {b0 : Nat} {v : Value} {d : DataW H} {p : List MemPlace} (hv : Value.okWide Try.prog w r b0 38 v) (h : DataW.Trod enc Try.prog w base spare held 38 v d p) : ∃ x : P, v = .agg #[.int .i64 (ti (x.lo)), .int .i64 (ti (x.hi))] := by
  obtain ⟨cs, rfl, _⟩ := okWide_struct Try.underlying38 hv
  obtain ⟨fuel, hf⟩ := h
  obtain ⟨x, hx⟩ := cells_38 hf
  refine ⟨x, ?_⟩
  have e : cs.toList = [.int .i64 (ti (x.lo)), .int .i64 (ti (x.hi))] := by simpa [Value.cells] using hx
  congr 1
  exact Array.toList_inj.1 (by rw [e])
set_option maxRecDepth 100000 in
theorem cells_51 {fuel : Nat} {cs : List Value} {y : DataW H × List MemPlace} (h : DataW.trod enc Try.prog w base spare held fuel 51 cs = some y) : ∃ x : P, cs = [.int .u64 (tn (x.lo)), .int .u64 (tn (x.hi))] := by
  obtain ⟨xs, n, _, _, hl, hx, hg⟩ := DataW.trod_struct Try.underlying51 h
  rw [show Try.prog.cellsOf 51 = 2 by kernel_rfl] at hl
  have hxl : xs.length = 2 := hx
  match cs, hl with
  | [c0, c1], _ =>
    have some_at : ∀ i, i < 2 → ∃ z, xs[i]? = some z := fun i hi => ⟨_, List.getElem?_eq_getElem (by omega)⟩
    have g0 : DataW.trod enc Try.prog w base spare held n 22 (([c0, c1].drop 0).take (Try.prog.cellsOf 22)) = xs[0]? := hg 0 _ rfl
    rw [show Try.prog.cellsOf 22 = 1 by kernel_rfl] at g0
    have g1 : DataW.trod enc Try.prog w base spare held n 22 (([c0, c1].drop 1).take (Try.prog.cellsOf 22)) = xs[1]? := hg 1 _ rfl
    rw [show Try.prog.cellsOf 22 = 1 by kernel_rfl] at g1
    obtain ⟨a0, rfl⟩ := one_u64_22 rfl (some_at 0 (by omega)) g0
    obtain ⟨a1, rfl⟩ := one_u64_22 rfl (some_at 1 (by omega)) g1
    exact ⟨⟨a0, a1⟩, rfl⟩
set_option maxRecDepth 100000 in
theorem open_51 {r : Reach} {b0 : Nat} {v : Value} {d : DataW H} {p : List MemPlace} (hv : Value.okWide Try.prog w r b0 51 v) (h : DataW.Trod enc Try.prog w base spare held 51 v d p) : ∃ x : P, v = .agg #[.int .u64 (tn (x.lo)), .int .u64 (tn (x.hi))] := by
  obtain ⟨cs, rfl, _⟩ := okWide_struct Try.underlying51 hv
  obtain ⟨fuel, hf⟩ := h
  obtain ⟨x, hx⟩ := cells_51 hf
  refine ⟨x, ?_⟩
  have e : cs.toList = [.int .u64 (tn (x.lo)), .int .u64 (tn (x.hi))] := by simpa [Value.cells] using hx
  congr 1
  exact Array.toList_inj.1 (by rw [e])
theorem one_i64_3 {n : Nat} {cs : List Value} {y : Option (DataW H × List MemPlace)} {c : Value} (hc : cs = [c]) (hy : ∃ z, y = some z) (h : DataW.trod enc Try.prog w base spare held n 3 cs = y) : ∃ a : BitVec 64, c = .int .i64 (ti a) := by
  obtain ⟨z, rfl⟩ := hy
  obtain ⟨a, ha, _, hw⟩ := DataW.trod_int Try.underlying3 h
  rw [hc] at ha
  injection ha with ha
  exact ⟨b64 a, ha.trans (i64_ti hw)⟩
set_option maxRecDepth 100000 in
theorem cells_60 {fuel : Nat} {cs : List Value} {y : DataW H × List MemPlace} (h : DataW.trod enc Try.prog w base spare held fuel 60 cs = some y) : ∃ x : Near, cs = [.int .u64 (tn (x.A.lo)), .int .u64 (tn (x.A.hi)), .int .u64 (tn (x.B.lo)), .int .u64 (tn (x.B.hi)), .int .u64 (tn (x.V)), .int .u64 (tn (x.W)), .int .i64 (ti (x.N))] := by
  obtain ⟨xs, n, _, _, hl, hx, hg⟩ := DataW.trod_struct Try.underlying60 h
  rw [show Try.prog.cellsOf 60 = 7 by kernel_rfl] at hl
  have hxl : xs.length = 5 := hx
  match cs, hl with
  | [c0, c1, c2, c3, c4, c5, c6], _ =>
    have some_at : ∀ i, i < 5 → ∃ z, xs[i]? = some z := fun i hi => ⟨_, List.getElem?_eq_getElem (by omega)⟩
    have g0 : DataW.trod enc Try.prog w base spare held n 24 (([c0, c1, c2, c3, c4, c5, c6].drop 0).take (Try.prog.cellsOf 24)) = xs[0]? := hg 0 _ rfl
    rw [show Try.prog.cellsOf 24 = 2 by kernel_rfl] at g0
    have g1 : DataW.trod enc Try.prog w base spare held n 24 (([c0, c1, c2, c3, c4, c5, c6].drop 2).take (Try.prog.cellsOf 24)) = xs[1]? := hg 1 _ rfl
    rw [show Try.prog.cellsOf 24 = 2 by kernel_rfl] at g1
    have g2 : DataW.trod enc Try.prog w base spare held n 22 (([c0, c1, c2, c3, c4, c5, c6].drop 4).take (Try.prog.cellsOf 22)) = xs[2]? := hg 2 _ rfl
    rw [show Try.prog.cellsOf 22 = 1 by kernel_rfl] at g2
    have g3 : DataW.trod enc Try.prog w base spare held n 22 (([c0, c1, c2, c3, c4, c5, c6].drop 5).take (Try.prog.cellsOf 22)) = xs[3]? := hg 3 _ rfl
    rw [show Try.prog.cellsOf 22 = 1 by kernel_rfl] at g3
    have g4 : DataW.trod enc Try.prog w base spare held n 3 (([c0, c1, c2, c3, c4, c5, c6].drop 6).take (Try.prog.cellsOf 3)) = xs[4]? := hg 4 _ rfl
    rw [show Try.prog.cellsOf 3 = 1 by kernel_rfl] at g4
    obtain ⟨z0, q0⟩ := some_at 0 (by omega)
    obtain ⟨a0, e0⟩ := cells_24 (g0.trans q0)
    simp only [List.drop_zero, List.take_succ_cons, List.take_zero, List.cons.injEq] at e0
    obtain ⟨rfl, rfl, _⟩ := e0
    obtain ⟨z1, q1⟩ := some_at 1 (by omega)
    obtain ⟨a1, e1⟩ := cells_24 (g1.trans q1)
    simp only [List.drop_succ_cons, List.drop_zero, List.take_succ_cons, List.take_zero, List.cons.injEq] at e1
    obtain ⟨rfl, rfl, _⟩ := e1
    obtain ⟨a2, rfl⟩ := one_u64_22 rfl (some_at 2 (by omega)) g2
    obtain ⟨a3, rfl⟩ := one_u64_22 rfl (some_at 3 (by omega)) g3
    obtain ⟨a4, rfl⟩ := one_i64_3 rfl (some_at 4 (by omega)) g4
    exact ⟨⟨a0, a1, a2, a3, a4⟩, rfl⟩
set_option maxRecDepth 100000 in
theorem open_60 {r : Reach} {b0 : Nat} {v : Value} {d : DataW H} {p : List MemPlace} (hv : Value.okWide Try.prog w r b0 60 v) (h : DataW.Trod enc Try.prog w base spare held 60 v d p) : ∃ x : Near, v = .agg #[.int .u64 (tn (x.A.lo)), .int .u64 (tn (x.A.hi)), .int .u64 (tn (x.B.lo)), .int .u64 (tn (x.B.hi)), .int .u64 (tn (x.V)), .int .u64 (tn (x.W)), .int .i64 (ti (x.N))] := by
  obtain ⟨cs, rfl, _⟩ := okWide_struct Try.underlying60 hv
  obtain ⟨fuel, hf⟩ := h
  obtain ⟨x, hx⟩ := cells_60 hf
  refine ⟨x, ?_⟩
  have e : cs.toList = [.int .u64 (tn (x.A.lo)), .int .u64 (tn (x.A.hi)), .int .u64 (tn (x.B.lo)), .int .u64 (tn (x.B.hi)), .int .u64 (tn (x.V)), .int .u64 (tn (x.W)), .int .i64 (ti (x.N))] := by simpa [Value.cells] using hx
  congr 1
  exact Array.toList_inj.1 (by rw [e])
end
end Go.Proofs.Ytoojdndfjfmemaa.Sp
