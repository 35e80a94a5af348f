/-
  From tnums as the claim's form reads them to what the walks are told of them.
-/
import Derived.Test.YtlpddekfbkafaaaDoorTnA
import Derived.OpenShut
import Derived.Deep.Slices
namespace Go.Proofs.YtlpddekfbkafaaaDoor.Tn
open Go.RowKit Go.Proofs.YtlpddekfbkafaaaDoor.Num Go.ChangeShapes Go.WideShapes Go.Deep
section
variable {H : Type} {enc : TypeId × Value → H} {w : World} {base : Nat} {spare : Nat → Bool} {held : Bool}
theorem one_u64 {n : Nat} {cs : List Value} {y : Option (DataW H × List MemPlace)} {c : Value} (hc : cs = [c]) (hy : ∃ z, y = some z) (h : DataW.trod enc Tryd.prog w base spare held n 22 cs = y) : ∃ a : BitVec 64, c = .int .u64 (tn a) := by
  obtain ⟨z, rfl⟩ := hy
  obtain ⟨a, ha, _, hw⟩ := DataW.trod_int Tryd.underlying22 h
  rw [hc] at ha
  injection ha with ha
  exact ⟨b64 a, by rw [ha, tn_b64 _ (bounds_u64 hw).1 (bounds_u64 hw).2]⟩
theorem tnum_cells {fuel : Nat} {cs : List Value} {y : DataW H × List MemPlace} (h : DataW.trod enc Tryd.prog w base spare held fuel 24 cs = some y) : ∃ x : T, cs = [.int .u64 (tn x.v), .int .u64 (tn x.m)] := by
  obtain ⟨xs, n, _, _, hl, hx, hg⟩ := DataW.trod_struct Tryd.underlying24 h
  rw [show Tryd.prog.cellsOf 24 = 2 by kernel_rfl] at hl
  have hx5 : xs.length = 2 := hx
  match cs, hl with
  | [c0, c1], _ =>
    have some_at : ∀ i, i < 2 → ∃ z, xs[i]? = some z := fun i hi => ⟨_, List.getElem?_eq_getElem (by omega)⟩
    have k1 : Tryd.prog.cellsOf 22 = 1 := by kernel_rfl
    have g0 : DataW.trod enc Tryd.prog w base spare held n 22 (([c0, c1].drop 0).take (Tryd.prog.cellsOf 22)) = xs[0]? := hg 0 _ rfl
    have g1 : DataW.trod enc Tryd.prog w base spare held n 22 (([c0, c1].drop 1).take (Tryd.prog.cellsOf 22)) = xs[1]? := hg 1 _ rfl
    rw [k1] at g0 g1
    obtain ⟨a0, rfl⟩ := one_u64 rfl (some_at 0 (by omega)) g0
    obtain ⟨a1, rfl⟩ := one_u64 rfl (some_at 1 (by omega)) g1
    exact ⟨⟨a0, a1⟩, rfl⟩
theorem open_tnum {r : Reach} {b0 : Nat} {v : Value} {d : DataW H} {p : List MemPlace} (hv : Value.okWide Tryd.prog w r b0 24 v) (h : DataW.Trod enc Tryd.prog w base spare held 24 v d p) : ∃ x : T, v = x.val := by
  obtain ⟨cs, rfl, _⟩ := okWide_struct Tryd.underlying24 hv
  obtain ⟨fuel, hf⟩ := h
  obtain ⟨x, hx⟩ := tnum_cells hf
  refine ⟨x, ?_⟩
  have e : cs.toList = [.int .u64 (tn x.v), .int .u64 (tn x.m)] := by simpa [Value.cells] using hx
  unfold T.val
  congr 1
  exact Array.toList_inj.1 (by rw [e])
theorem u64_tn {a : Int} (h : (Lit.int .u64 a).wf = true) : Value.int .u64 a = .int .u64 (tn (b64 a)) := by rw [tn_b64 _ (bounds_u64 h).1 (bounds_u64 h).2]
end
end Go.Proofs.YtlpddekfbkafaaaDoor.Tn
