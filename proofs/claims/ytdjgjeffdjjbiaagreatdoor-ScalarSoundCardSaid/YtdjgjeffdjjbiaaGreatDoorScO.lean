/-
  From what the claim's form reads to what the walks are told.
-/
import Derived.Test.YtdjgjeffdjjbiaaGreatDoorTnZ
import Derived.ProofKit
import Derived.LaidMore
import Derived.OpenShut
import Derived.Stop.Joined
import Derived.Deep.Slices
import Derived.Test.YtdjgjeffdjjbiaaGreatDoorScK
namespace Go.Proofs.YtdjgjeffdjjbiaaGreatDoor.Sp
open Go.RowKit Go.Proofs.YtdjgjeffdjjbiaaGreatDoor.Num Go.Proofs.YtdjgjeffdjjbiaaGreatDoor.Up Go.ChangeShapes Go.WideShapes Go.Deep
section
variable {H : Type} {enc : TypeId × Value → H} {w : World} {base : Nat} {spare : Nat → Bool} {held : Bool}
theorem u64_tn {a : Int} (h : (Lit.int .u64 a).wf = true) : Value.int .u64 a = .int .u64 (tn (b64 a)) := by rw [tn_b64 _ (bounds_u64 h).1 (bounds_u64 h).2]
theorem i64_ti {a : Int} (h : (Lit.int .i64 a).wf = true) : Value.int .i64 a = .int .i64 (ti (b64 a)) := by
  have b := bounds_i64 h
  have e : ti (b64 a) = a := by
    rw [← wrapI, IntKind.wrap_i64]
    omega
  rw [e]
theorem one_u64_22 {n : Nat} {cs : List Value} {y : Option (DataW H × List MemPlace)} {c : Value} (hc : cs = [c]) (hy : ∃ z, y = some z) (h : DataW.trod enc Tryz.prog w base spare held n 22 cs = y) : ∃ a : BitVec 64, c = .int .u64 (tn a) := by
  obtain ⟨z, rfl⟩ := hy
  obtain ⟨a, ha, _, hw⟩ := DataW.trod_int Tryz.underlying22 h
  rw [hc] at ha
  injection ha with ha
  exact ⟨b64 a, ha.trans (u64_tn hw)⟩
set_option maxRecDepth 100000 in
theorem cells_24 {fuel : Nat} {cs : List Value} {y : DataW H × List MemPlace} (h : DataW.trod enc Tryz.prog w base spare held fuel 24 cs = some y) : ∃ x : P, cs = [.int .u64 (tn (x.lo)), .int .u64 (tn (x.hi))] := by
  obtain ⟨xs, n, _, _, hl, hx, hg⟩ := DataW.trod_struct Tryz.underlying24 h
  rw [show Tryz.prog.cellsOf 24 = 2 by kernel_rfl] at hl
  have hxl : xs.length = 2 := hx
  match cs, hl with
  | [c0, c1], _ =>
    have some_at : ∀ i, i < 2 → ∃ z, xs[i]? = some z := fun i hi => ⟨_, List.getElem?_eq_getElem (by omega)⟩
    have g0 : DataW.trod enc Tryz.prog w base spare held n 22 (([c0, c1].drop 0).take (Tryz.prog.cellsOf 22)) = xs[0]? := hg 0 _ rfl
    rw [show Tryz.prog.cellsOf 22 = 1 by kernel_rfl] at g0
    have g1 : DataW.trod enc Tryz.prog w base spare held n 22 (([c0, c1].drop 1).take (Tryz.prog.cellsOf 22)) = xs[1]? := hg 1 _ rfl
    rw [show Tryz.prog.cellsOf 22 = 1 by kernel_rfl] at g1
    obtain ⟨a0, rfl⟩ := one_u64_22 rfl (some_at 0 (by omega)) g0
    obtain ⟨a1, rfl⟩ := one_u64_22 rfl (some_at 1 (by omega)) g1
    exact ⟨⟨a0, a1⟩, rfl⟩
set_option maxRecDepth 100000 in
theorem open_24 {r : Reach} {b0 : Nat} {v : Value} {d : DataW H} {p : List MemPlace} (hv : Value.okWide Tryz.prog w r b0 24 v) (h : DataW.Trod enc Tryz.prog w base spare held 24 v d p) : ∃ x : P, v = .agg #[.int .u64 (tn (x.lo)), .int .u64 (tn (x.hi))] := by
  obtain ⟨cs, rfl, _⟩ := okWide_struct Tryz.underlying24 hv
  obtain ⟨fuel, hf⟩ := h
  obtain ⟨x, hx⟩ := cells_24 hf
  refine ⟨x, ?_⟩
  have e : cs.toList = [.int .u64 (tn (x.lo)), .int .u64 (tn (x.hi))] := by simpa [Value.cells] using hx
  congr 1
  exact Array.toList_inj.1 (by rw [e])
set_option maxRecDepth 100000 in
theorem cells_26 {fuel : Nat} {cs : List Value} {y : DataW H × List MemPlace} (h : DataW.trod enc Tryz.prog w base spare held fuel 26 cs = some y) : ∃ x : P, cs = [.int .u64 (tn (x.lo)), .int .u64 (tn (x.hi))] := by
  obtain ⟨xs, n, _, _, hl, hx, hg⟩ := DataW.trod_struct Tryz.underlying26 h
  rw [show Tryz.prog.cellsOf 26 = 2 by kernel_rfl] at hl
  have hxl : xs.length = 2 := hx
  match cs, hl with
  | [c0, c1], _ =>
    have some_at : ∀ i, i < 2 → ∃ z, xs[i]? = some z := fun i hi => ⟨_, List.getElem?_eq_getElem (by omega)⟩
    have g0 : DataW.trod enc Tryz.prog w base spare held n 22 (([c0, c1].drop 0).take (Tryz.prog.cellsOf 22)) = xs[0]? := hg 0 _ rfl
    rw [show Tryz.prog.cellsOf 22 = 1 by kernel_rfl] at g0
    have g1 : DataW.trod enc Tryz.prog w base spare held n 22 (([c0, c1].drop 1).take (Tryz.prog.cellsOf 22)) = xs[1]? := hg 1 _ rfl
    rw [show Tryz.prog.cellsOf 22 = 1 by kernel_rfl] at g1
    obtain ⟨a0, rfl⟩ := one_u64_22 rfl (some_at 0 (by omega)) g0
    obtain ⟨a1, rfl⟩ := one_u64_22 rfl (some_at 1 (by omega)) g1
    exact ⟨⟨a0, a1⟩, rfl⟩
set_option maxRecDepth 100000 in
theorem open_26 {r : Reach} {b0 : Nat} {v : Value} {d : DataW H} {p : List MemPlace} (hv : Value.okWide Tryz.prog w r b0 26 v) (h : DataW.Trod enc Tryz.prog w base spare held 26 v d p) : ∃ x : P, v = .agg #[.int .u64 (tn (x.lo)), .int .u64 (tn (x.hi))] := by
  obtain ⟨cs, rfl, _⟩ := okWide_struct Tryz.underlying26 hv
  obtain ⟨fuel, hf⟩ := h
  obtain ⟨x, hx⟩ := cells_26 hf
  refine ⟨x, ?_⟩
  have e : cs.toList = [.int .u64 (tn (x.lo)), .int .u64 (tn (x.hi))] := by simpa [Value.cells] using hx
  congr 1
  exact Array.toList_inj.1 (by rw [e])
theorem one_i64_2 {n : Nat} {cs : List Value} {y : Option (DataW H × List MemPlace)} {c : Value} (hc : cs = [c]) (hy : ∃ z, y = some z) (h : DataW.trod enc Tryz.prog w base spare held n 2 cs = y) : ∃ a : BitVec 64, c = .int .i64 (ti a) := by
  obtain ⟨z, rfl⟩ := hy
  obtain ⟨a, ha, _, hw⟩ := DataW.trod_int Tryz.underlying2 h
  rw [hc] at ha
  injection ha with ha
  exact ⟨b64 a, ha.trans (i64_ti hw)⟩
set_option maxRecDepth 100000 in
theorem cells_28 {fuel : Nat} {cs : List Value} {y : DataW H × List MemPlace} (h : DataW.trod enc Tryz.prog w base spare held fuel 28 cs = some y) : ∃ x : P, cs = [.int .i64 (ti (x.lo)), .int .i64 (ti (x.hi))] := by
  obtain ⟨xs, n, _, _, hl, hx, hg⟩ := DataW.trod_struct Tryz.underlying28 h
  rw [show Tryz.prog.cellsOf 28 = 2 by kernel_rfl] at hl
  have hxl : xs.length = 2 := hx
  match cs, hl with
  | [c0, c1], _ =>
    have some_at : ∀ i, i < 2 → ∃ z, xs[i]? = some z := fun i hi => ⟨_, List.getElem?_eq_getElem (by omega)⟩
    have g0 : DataW.trod enc Tryz.prog w base spare held n 2 (([c0, c1].drop 0).take (Tryz.prog.cellsOf 2)) = xs[0]? := hg 0 _ rfl
    rw [show Tryz.prog.cellsOf 2 = 1 by kernel_rfl] at g0
    have g1 : DataW.trod enc Tryz.prog w base spare held n 2 (([c0, c1].drop 1).take (Tryz.prog.cellsOf 2)) = xs[1]? := hg 1 _ rfl
    rw [show Tryz.prog.cellsOf 2 = 1 by kernel_rfl] at g1
    obtain ⟨a0, rfl⟩ := one_i64_2 rfl (some_at 0 (by omega)) g0
    obtain ⟨a1, rfl⟩ := one_i64_2 rfl (some_at 1 (by omega)) g1
    exact ⟨⟨a0, a1⟩, rfl⟩
set_option maxRecDepth 100000 in
theorem open_28 {r : Reach} {b0 : Nat} {v : Value} {d : DataW H} {p : List MemPlace} (hv : Value.okWide Tryz.prog w r b0 28 v) (h : DataW.Trod enc Tryz.prog w base spare held 28 v d p) : ∃ x : P, v = .agg #[.int .i64 (ti (x.lo)), .int .i64 (ti (x.hi))] := by
  obtain ⟨cs, rfl, _⟩ := okWide_struct Tryz.underlying28 hv
  obtain ⟨fuel, hf⟩ := h
  obtain ⟨x, hx⟩ := cells_28 hf
  refine ⟨x, ?_⟩
  have e : cs.toList = [.int .i64 (ti (x.lo)), .int .i64 (ti (x.hi))] := by simpa [Value.cells] using hx
  congr 1
  exact Array.toList_inj.1 (by rw [e])
set_option maxRecDepth 100000 in
theorem cells_30 {fuel : Nat} {cs : List Value} {y : DataW H × List MemPlace} (h : DataW.trod enc Tryz.prog w base spare held fuel 30 cs = some y) : ∃ x : Sc, cs = [.int .u64 (tn (x.t.lo)), .int .u64 (tn (x.t.hi)), .int .u64 (tn (x.u.lo)), .int .u64 (tn (x.u.hi)), .int .i64 (ti (x.s.lo)), .int .i64 (ti (x.s.hi))] := by
  obtain ⟨xs, n, _, _, hl, hx, hg⟩ := DataW.trod_struct Tryz.underlying30 h
  rw [show Tryz.prog.cellsOf 30 = 6 by kernel_rfl] at hl
  have hxl : xs.length = 3 := hx
  match cs, hl with
  | [c0, c1, c2, c3, c4, c5], _ =>
    have some_at : ∀ i, i < 3 → ∃ z, xs[i]? = some z := fun i hi => ⟨_, List.getElem?_eq_getElem (by omega)⟩
    have g0 : DataW.trod enc Tryz.prog w base spare held n 24 (([c0, c1, c2, c3, c4, c5].drop 0).take (Tryz.prog.cellsOf 24)) = xs[0]? := hg 0 _ rfl
    rw [show Tryz.prog.cellsOf 24 = 2 by kernel_rfl] at g0
    have g1 : DataW.trod enc Tryz.prog w base spare held n 26 (([c0, c1, c2, c3, c4, c5].drop 2).take (Tryz.prog.cellsOf 26)) = xs[1]? := hg 1 _ rfl
    rw [show Tryz.prog.cellsOf 26 = 2 by kernel_rfl] at g1
    have g2 : DataW.trod enc Tryz.prog w base spare held n 28 (([c0, c1, c2, c3, c4, c5].drop 4).take (Tryz.prog.cellsOf 28)) = xs[2]? := hg 2 _ rfl
    rw [show Tryz.prog.cellsOf 28 = 2 by kernel_rfl] at g2
    obtain ⟨z0, q0⟩ := some_at 0 (by omega)
    obtain ⟨a0, e0⟩ := cells_24 (g0.trans q0)
    simp only [List.drop_zero, List.take_succ_cons, List.take_zero, List.cons.injEq] at e0
    obtain ⟨rfl, rfl, _⟩ := e0
    obtain ⟨z1, q1⟩ := some_at 1 (by omega)
    obtain ⟨a1, e1⟩ := cells_26 (g1.trans q1)
    simp only [List.drop_succ_cons, List.drop_zero, List.take_succ_cons, List.take_zero, List.cons.injEq] at e1
    obtain ⟨rfl, rfl, _⟩ := e1
    obtain ⟨z2, q2⟩ := some_at 2 (by omega)
    obtain ⟨a2, e2⟩ := cells_28 (g2.trans q2)
    simp only [List.drop_succ_cons, List.drop_zero, List.take_succ_cons, List.take_zero, List.cons.injEq] at e2
    obtain ⟨rfl, rfl, _⟩ := e2
    exact ⟨⟨a0, a1, a2⟩, rfl⟩
set_option maxRecDepth 100000 in
theorem open_30 {r : Reach} {b0 : Nat} {v : Value} {d : DataW H} {p : List MemPlace} (hv : Value.okWide Tryz.prog w r b0 30 v) (h : DataW.Trod enc Tryz.prog w base spare held 30 v d p) : ∃ x : Sc, v = .agg #[.int .u64 (tn (x.t.lo)), .int .u64 (tn (x.t.hi)), .int .u64 (tn (x.u.lo)), .int .u64 (tn (x.u.hi)), .int .i64 (ti (x.s.lo)), .int .i64 (ti (x.s.hi))] := by
  obtain ⟨cs, rfl, _⟩ := okWide_struct Tryz.underlying30 hv
  obtain ⟨fuel, hf⟩ := h
  obtain ⟨x, hx⟩ := cells_30 hf
  refine ⟨x, ?_⟩
  have e : cs.toList = [.int .u64 (tn (x.t.lo)), .int .u64 (tn (x.t.hi)), .int .u64 (tn (x.u.lo)), .int .u64 (tn (x.u.hi)), .int .i64 (ti (x.s.lo)), .int .i64 (ti (x.s.hi))] := by simpa [Value.cells] using hx
  congr 1
  exact Array.toList_inj.1 (by rw [e])
set_option maxRecDepth 100000 in
theorem cells_43 {fuel : Nat} {cs : List Value} {y : DataW H × List MemPlace} (h : DataW.trod enc Tryz.prog w base spare held fuel 43 cs = some y) : ∃ x : Pr, cs = [.int .u64 (tn (x.V)), .int .u64 (tn (x.W)), .int .u64 (tn (x.Mask)), .int .u64 (tn (x.Other)), .int .u64 (tn (x.Down)), .int .u64 (tn (x.Up)), .int .u64 (tn (x.Less)), .int .u64 (tn (x.More))] := by
  obtain ⟨xs, n, _, _, hl, hx, hg⟩ := DataW.trod_struct Tryz.underlying43 h
  rw [show Tryz.prog.cellsOf 43 = 8 by kernel_rfl] at hl
  have hxl : xs.length = 8 := hx
  match cs, hl with
  | [c0, c1, c2, c3, c4, c5, c6, c7], _ =>
    have some_at : ∀ i, i < 8 → ∃ z, xs[i]? = some z := fun i hi => ⟨_, List.getElem?_eq_getElem (by omega)⟩
    have g0 : DataW.trod enc Tryz.prog w base spare held n 22 (([c0, c1, c2, c3, c4, c5, c6, c7].drop 0).take (Tryz.prog.cellsOf 22)) = xs[0]? := hg 0 _ rfl
    rw [show Tryz.prog.cellsOf 22 = 1 by kernel_rfl] at g0
    have g1 : DataW.trod enc Tryz.prog w base spare held n 22 (([c0, c1, c2, c3, c4, c5, c6, c7].drop 1).take (Tryz.prog.cellsOf 22)) = xs[1]? := hg 1 _ rfl
    rw [show Tryz.prog.cellsOf 22 = 1 by kernel_rfl] at g1
    have g2 : DataW.trod enc Tryz.prog w base spare held n 22 (([c0, c1, c2, c3, c4, c5, c6, c7].drop 2).take (Tryz.prog.cellsOf 22)) = xs[2]? := hg 2 _ rfl
    rw [show Tryz.prog.cellsOf 22 = 1 by kernel_rfl] at g2
    have g3 : DataW.trod enc Tryz.prog w base spare held n 22 (([c0, c1, c2, c3, c4, c5, c6, c7].drop 3).take (Tryz.prog.cellsOf 22)) = xs[3]? := hg 3 _ rfl
    rw [show Tryz.prog.cellsOf 22 = 1 by kernel_rfl] at g3
    have g4 : DataW.trod enc Tryz.prog w base spare held n 22 (([c0, c1, c2, c3, c4, c5, c6, c7].drop 4).take (Tryz.prog.cellsOf 22)) = xs[4]? := hg 4 _ rfl
    rw [show Tryz.prog.cellsOf 22 = 1 by kernel_rfl] at g4
    have g5 : DataW.trod enc Tryz.prog w base spare held n 22 (([c0, c1, c2, c3, c4, c5, c6, c7].drop 5).take (Tryz.prog.cellsOf 22)) = xs[5]? := hg 5 _ rfl
    rw [show Tryz.prog.cellsOf 22 = 1 by kernel_rfl] at g5
    have g6 : DataW.trod enc Tryz.prog w base spare held n 22 (([c0, c1, c2, c3, c4, c5, c6, c7].drop 6).take (Tryz.prog.cellsOf 22)) = xs[6]? := hg 6 _ rfl
    rw [show Tryz.prog.cellsOf 22 = 1 by kernel_rfl] at g6
    have g7 : DataW.trod enc Tryz.prog w base spare held n 22 (([c0, c1, c2, c3, c4, c5, c6, c7].drop 7).take (Tryz.prog.cellsOf 22)) = xs[7]? := hg 7 _ rfl
    rw [show Tryz.prog.cellsOf 22 = 1 by kernel_rfl] at g7
    obtain ⟨a0, rfl⟩ := one_u64_22 rfl (some_at 0 (by omega)) g0
    obtain ⟨a1, rfl⟩ := one_u64_22 rfl (some_at 1 (by omega)) g1
    obtain ⟨a2, rfl⟩ := one_u64_22 rfl (some_at 2 (by omega)) g2
    obtain ⟨a3, rfl⟩ := one_u64_22 rfl (some_at 3 (by omega)) g3
    obtain ⟨a4, rfl⟩ := one_u64_22 rfl (some_at 4 (by omega)) g4
    obtain ⟨a5, rfl⟩ := one_u64_22 rfl (some_at 5 (by omega)) g5
    obtain ⟨a6, rfl⟩ := one_u64_22 rfl (some_at 6 (by omega)) g6
    obtain ⟨a7, rfl⟩ := one_u64_22 rfl (some_at 7 (by omega)) g7
    exact ⟨⟨a0, a1, a2, a3, a4, a5, a6, a7⟩, rfl⟩
set_option maxRecDepth 100000 in
theorem open_43 {r : Reach} {b0 : Nat} {v : Value} {d : DataW H} {p : List MemPlace} (hv : Value.okWide Tryz.prog w r b0 43 v) (h : DataW.Trod enc Tryz.prog w base spare held 43 v d p) : ∃ x : Pr, v = .agg #[.int .u64 (tn (x.V)), .int .u64 (tn (x.W)), .int .u64 (tn (x.Mask)), .int .u64 (tn (x.Other)), .int .u64 (tn (x.Down)), .int .u64 (tn (x.Up)), .int .u64 (tn (x.Less)), .int .u64 (tn (x.More))] := by
  obtain ⟨cs, rfl, _⟩ := okWide_struct Tryz.underlying43 hv
  obtain ⟨fuel, hf⟩ := h
  obtain ⟨x, hx⟩ := cells_43 hf
  refine ⟨x, ?_⟩
  have e : cs.toList = [.int .u64 (tn (x.V)), .int .u64 (tn (x.W)), .int .u64 (tn (x.Mask)), .int .u64 (tn (x.Other)), .int .u64 (tn (x.Down)), .int .u64 (tn (x.Up)), .int .u64 (tn (x.Less)), .int .u64 (tn (x.More))] := by simpa [Value.cells] using hx
  congr 1
  exact Array.toList_inj.1 (by rw [e])
end
end Go.Proofs.YtdjgjeffdjjbiaaGreatDoor.Sp
namespace Go.Proofs.YtdjgjeffdjjbiaaGreatDoor.Tn
open Go.ChangeShapes Go.WideShapes Go.ChangeAt Go.WideElems Go.RowKit Go.Proofs.YtdjgjeffdjjbiaaGreatDoor.Num
theorem gTab : Tryz.prog.globalNamed "math/bits.deBruijn64tab" = some 0 := by kernel_rfl
theorem tTab : (Tryz.prog.globals[0]?).map (·.type) = some 201 := by kernel_rfl
def tabL : List (String × DataW Unit) := [("math/bits.deBruijn64tab", Rows.laid_math_bits_deBruijn64tab)]
theorem door_met (os : Os) (args : Array Value) : laidMetH Tryz.prog tabL ((World.doorLaid Tryz.prog 400 os).forCall (fun _ _ => 0) ⟨#[], args, []⟩).memory :=
  laidMetH_of_parts3 (fuel := 8) (laidMet_of_run' 8 (by kernel_rfl) (by kernel_rfl)) (by kernel_rfl) (by kernel_rfl)
set_option maxRecDepth 100000 in
theorem of_laid {W : World} (h : laidMetH Tryz.prog tabL W) : Tab W := by
  rw [MakeChecks.laidMetH_plain _ _ _ (by kernel_rfl)] at h
  obtain ⟨ps, ⟨g0, t0, cs0, f0, p0, q0, hg0, ht0, hv0, hd0, _, _⟩, _, _⟩ := h
  obtain rfl := Option.some.inj (gTab.symm.trans hg0)
  obtain rfl := Option.some.inj (tTab.symm.trans ht0)
  obtain ⟨xs, m1, hcs, hx1, hlen, hn3, hel⟩ := DataW.trod_array Tryz.underlying201 hd0
  intro k hk
  have c5 : Tryz.prog.cellsOf 5 = 1 := by kernel_rfl
  have hv := World.var?_cell hg0 hv0 k
  have he := hel k hk
  simp only [Prod.mk.injEq] at hx1
  obtain ⟨hx1, _⟩ := hx1
  have hL : (Rows.laid_math_bits_deBruijn64tab : DataW Unit) = .agg (deB.map fun z => .lit (.int .u8 z)) := rfl
  rw [hL] at hx1
  injection hx1 with hx1
  obtain ⟨x, hx⟩ : ∃ x, xs[k]? = some x := ⟨_, List.getElem?_eq_getElem (by omega)⟩
  rw [c5, Nat.mul_one, hx] at he
  obtain ⟨n, e1, e2, _⟩ := DataW.trod_int Tryz.underlying5 he
  have hd : k < deB.length := hk
  have h3 : (deB.map (fun z => (DataW.lit (.int .u8 z) : DataW Unit)))[k]? = (xs.map (fun x => x.fst))[k]? := by rw [hx1]
  rw [List.getElem?_map, List.getElem?_map, hx, List.getElem?_eq_getElem hd, e2] at h3
  simp only [Option.map_some, Option.some.injEq, DataW.lit.injEq, Lit.int.injEq, true_and] at h3
  have h4 : cs0.toList[k]? = some (.int .u8 n) := by
    have h5 := congrArg (fun l => l[0]?) e1
    simpa [List.getElem?_take, List.getElem?_drop] using h5
  rw [hv, ← Array.getElem?_toList, h4, ← h3, List.getD_eq_getElem?_getD, List.getElem?_eq_getElem hd]
  rfl
end Go.Proofs.YtdjgjeffdjjbiaaGreatDoor.Tn
