/-
  A list of declarations that is one's own, given to Check.
-/
import Derived.Test.YtejcjjimhaokfaaDoorDlF
import Derived.Test.YtejcjjimhaokfaaDoorDlH
namespace Go.Proofs.YtejcjjimhaokfaaDoor.Dcl
open Go.RowKit Go.Proofs.YtejcjjimhaokfaaDoor.Num Go.Proofs.YtejcjjimhaokfaaDoor.Up Go.Proofs.YtejcjjimhaokfaaDoor.Tn
theorem arg_st {w0 x : World} {l : List Blk} (hx : St w0 l x) (j : Nat) {k : Nat} {cs : List (Option Value)} {t : TypeId} (hj : l[j]? = some ⟨k, cs, t⟩) (L : List Dc) (hcs : cs = (VN (L.map Dc.di)).map some) : ArgN x (some ⟨k, 0, none⟩) L.length (L.map Dc.di) := by
  refine ⟨by simp, fun _ => ⟨k, 0, rfl, (hx.own _ (List.mem_of_getElem? hj)).2.lt, fun i y hy => ?_⟩⟩
  have c : ∀ m u, y.vals[m]? = some u → x.cell? ⟨k, 0 + i * 5 + m, none⟩ = some u := fun m u hu => by
    have h1 := VN_get (L.map Dc.di) i y m u hy hu
    rw [Nat.zero_add]
    refine hx.load j (i * 5 + m) hj (v := u) ?_
    show cs[i * 5 + m]? = some (some u)
    rw [hcs, List.getElem?_map, h1]
    rfl
  exact ⟨c 0 _ rfl, c 1 _ rfl, c 2 _ rfl, c 3 _ rfl, c 4 _ rfl⟩
end Go.Proofs.YtejcjjimhaokfaaDoor.Dcl
