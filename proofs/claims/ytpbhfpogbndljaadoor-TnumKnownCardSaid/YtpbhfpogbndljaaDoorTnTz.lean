/-
  The table as the row's condition lays it.
-/
import Derived.Test.YtpbhfpogbndljaaDoorTnZ
import Derived.ProofKit
import Derived.LaidMore
import Derived.OpenShut
import Derived.Stop.Joined
namespace Go.Proofs.YtpbhfpogbndljaaDoor.Tn
open Go.ChangeShapes Go.WideShapes Go.ChangeAt Go.WideElems Go.RowKit Go.Proofs.YtpbhfpogbndljaaDoor.Num
theorem gTab : Tryd.prog.globalNamed "math/bits.deBruijn64tab" = some 0 := by kernel_rfl
theorem tTab : (Tryd.prog.globals[0]?).map (·.type) = some 66 := by kernel_rfl
def tabL : List (String × DataW Unit) := [("math/bits.deBruijn64tab", Rows.laid_math_bits_deBruijn64tab)]
theorem door_met (os : Os) (args : Array Value) : laidMetH Tryd.prog tabL ((World.doorLaid Tryd.prog 400 os).forCall (fun _ _ => 0) ⟨#[], args, []⟩).memory :=
  laidMetH_of_parts3 (fuel := 8) (laidMet_of_run' 8 (by kernel_rfl) (by kernel_rfl)) (by kernel_rfl) (by kernel_rfl)
set_option maxRecDepth 100000 in
theorem of_laid {W : World} (h : laidMetH Tryd.prog tabL W) : Tab W := by
  rw [MakeChecks.laidMetH_plain _ _ _ (by kernel_rfl)] at h
  obtain ⟨ps, ⟨g0, t0, cs0, f0, p0, q0, hg0, ht0, hv0, hd0, _, _⟩, _, _⟩ := h
  obtain rfl := Option.some.inj (gTab.symm.trans hg0)
  obtain rfl := Option.some.inj (tTab.symm.trans ht0)
  obtain ⟨xs, m1, hcs, hx1, hlen, hn3, hel⟩ := DataW.trod_array Tryd.underlying66 hd0
  intro k hk
  have c5 : Tryd.prog.cellsOf 5 = 1 := by kernel_rfl
  have hv := World.var?_cell hg0 hv0 k
  have he := hel k hk
  simp only [Prod.mk.injEq] at hx1
  obtain ⟨hx1, _⟩ := hx1
  have hL : (Rows.laid_math_bits_deBruijn64tab : DataW Unit) = .agg (deB.map fun z => .lit (.int .u8 z)) := rfl
  rw [hL] at hx1
  injection hx1 with hx1
  obtain ⟨x, hx⟩ : ∃ x, xs[k]? = some x := ⟨_, List.getElem?_eq_getElem (by omega)⟩
  rw [c5, Nat.mul_one, hx] at he
  obtain ⟨n, e1, e2, _⟩ := DataW.trod_int Tryd.underlying5 he
  have hd : k < deB.length := hk
  have h3 : (deB.map (fun z => (DataW.lit (.int .u8 z) : DataW Unit)))[k]? = (xs.map (fun x => x.fst))[k]? := by rw [hx1]
  rw [List.getElem?_map, List.getElem?_map, hx, List.getElem?_eq_getElem hd, e2] at h3
  simp only [Option.map_some, Option.some.injEq, DataW.lit.injEq, Lit.int.injEq, true_and] at h3
  have h4 : cs0.toList[k]? = some (.int .u8 n) := by
    have h5 := congrArg (fun l => l[0]?) e1
    simpa [List.getElem?_take, List.getElem?_drop] using h5
  rw [hv, ← Array.getElem?_toList, h4, ← h3, List.getD_eq_getElem?_getD, List.getElem?_eq_getElem hd]
  rfl
end Go.Proofs.YtpbhfpogbndljaaDoor.Tn
