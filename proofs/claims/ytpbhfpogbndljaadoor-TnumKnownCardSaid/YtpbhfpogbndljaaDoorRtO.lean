/-
  From what the claim's form reads to what the walks are told.
-/
import Derived.OpenShut
import Derived.Deep.Slices
import Derived.Test.YtpbhfpogbndljaaDoorOps
namespace Go.Proofs.YtpbhfpogbndljaaDoor.Rt
open Go.RowKit Go.Proofs.YtpbhfpogbndljaaDoor.Num Go.Proofs.YtpbhfpogbndljaaDoor.Up Go.ChangeShapes Go.WideShapes Go.Deep
section
variable {H : Type} {enc : TypeId × Value → H} {w : World} {base : Nat} {spare : Nat → Bool} {held : Bool}
theorem u64_tn {a : Int} (h : (Lit.int .u64 a).wf = true) : Value.int .u64 a = .int .u64 (tn (b64 a)) := by rw [tn_b64 _ (bounds_u64 h).1 (bounds_u64 h).2]
theorem i64_ti {a : Int} (h : (Lit.int .i64 a).wf = true) : Value.int .i64 a = .int .i64 (ti (b64 a)) := by
  have b := bounds_i64 h
  have e : ti (b64 a) = a := by
    rw [← wrapI, IntKind.wrap_i64]
    omega
  rw [e]
theorem one_u64_22 {n : Nat} {cs : List Value} {y : Option (DataW H × List MemPlace)} {c : Value} (hc : cs = [c]) (hy : ∃ z, y = some z) (h : DataW.trod enc Tryd.prog w base spare held n 22 cs = y) : ∃ a : BitVec 64, c = .int .u64 (tn a) := by
  obtain ⟨z, rfl⟩ := hy
  obtain ⟨a, ha, _, hw⟩ := DataW.trod_int Tryd.underlying22 h
  rw [hc] at ha
  injection ha with ha
  exact ⟨b64 a, ha.trans (u64_tn hw)⟩
set_option maxRecDepth 100000 in
theorem cells_24 {fuel : Nat} {cs : List Value} {y : DataW H × List MemPlace} (h : DataW.trod enc Tryd.prog w base spare held fuel 24 cs = some y) : ∃ x : P, cs = [.int .u64 (tn (x.lo)), .int .u64 (tn (x.hi))] := by
  obtain ⟨xs, n, _, _, hl, hx, hg⟩ := DataW.trod_struct Tryd.underlying24 h
  rw [show Tryd.prog.cellsOf 24 = 2 by kernel_rfl] at hl
  have hxl : xs.length = 2 := hx
  match cs, hl with
  | [c0, c1], _ =>
    have some_at : ∀ i, i < 2 → ∃ z, xs[i]? = some z := fun i hi => ⟨_, List.getElem?_eq_getElem (by omega)⟩
    have g0 : DataW.trod enc Tryd.prog w base spare held n 22 (([c0, c1].drop 0).take (Tryd.prog.cellsOf 22)) = xs[0]? := hg 0 _ rfl
    rw [show Tryd.prog.cellsOf 22 = 1 by kernel_rfl] at g0
    have g1 : DataW.trod enc Tryd.prog w base spare held n 22 (([c0, c1].drop 1).take (Tryd.prog.cellsOf 22)) = xs[1]? := hg 1 _ rfl
    rw [show Tryd.prog.cellsOf 22 = 1 by kernel_rfl] at g1
    obtain ⟨a0, rfl⟩ := one_u64_22 rfl (some_at 0 (by omega)) g0
    obtain ⟨a1, rfl⟩ := one_u64_22 rfl (some_at 1 (by omega)) g1
    exact ⟨⟨a0, a1⟩, rfl⟩
set_option maxRecDepth 100000 in
theorem open_24 {r : Reach} {b0 : Nat} {v : Value} {d : DataW H} {p : List MemPlace} (hv : Value.okWide Tryd.prog w r b0 24 v) (h : DataW.Trod enc Tryd.prog w base spare held 24 v d p) : ∃ x : P, v = .agg #[.int .u64 (tn (x.lo)), .int .u64 (tn (x.hi))] := by
  obtain ⟨cs, rfl, _⟩ := okWide_struct Tryd.underlying24 hv
  obtain ⟨fuel, hf⟩ := h
  obtain ⟨x, hx⟩ := cells_24 hf
  refine ⟨x, ?_⟩
  have e : cs.toList = [.int .u64 (tn (x.lo)), .int .u64 (tn (x.hi))] := by simpa [Value.cells] using hx
  congr 1
  exact Array.toList_inj.1 (by rw [e])
end
end Go.Proofs.YtpbhfpogbndljaaDoor.Rt
