/-
  Contracts of the kit's lists of bytes: a copy, a comparison.
-/
import Derived.Test.YtejcjjimhaokfaaDoorRows
import Derived.Test.YtejcjjimhaokfaaDoorNumC
import Derived.WalkKit
import Derived.WalkSpells
import Derived.WalkLawsBesides
import Derived.Deep.QuietTactic
import Derived.BigQuiet
namespace Go.Proofs.YtejcjjimhaokfaaDoor.ListB
open Go.RowKit Go.Proofs.YtejcjjimhaokfaaDoor.Num
theorem info8 : (Tryd.prog.info? 5).map (fun i => (i.zero, i.size, i.bytes)) = some (some (.int .u8 0), 1, 1) := by kernel_rfl
/-- Bytes as the memory holds them. -/
def V (zs : List Int) : List Value := zs.map (Value.int .u8)
/-- A slice of bytes that is there to be read: nothing is asked of an empty one. -/
def Arg (w : World) (a : Option Addr) (len : Nat) (zs : List Int) : Prop :=
  zs.length = len ∧ (∀ i, 0 ≤ zs.getD i 0 ∧ zs.getD i 0 ≤ 255) ∧
  (0 < len → ∃ b off, a = some ⟨b, off, none⟩ ∧ b < w.heap.size ∧ ∀ i, i < len → w.cell? ⟨b, off + i, none⟩ = some (.int .u8 (zs.getD i 0)))
theorem Arg.below {w w' : World} {a : Option Addr} {len : Nat} {zs : List Int} (h : Arg w a len zs) {B : Nat} (hb : Below B w w') (hB : ∀ b off, a = some ⟨b, off, none⟩ → b < B) : Arg w' a len zs := by
  refine ⟨h.1, h.2.1, fun hl => ?_⟩
  obtain ⟨b, off, ha, hw, hc⟩ := h.2.2 hl
  exact ⟨b, off, ha, Nat.lt_of_lt_of_le hw hb.size, fun i hi => (hb.cell (hB b off ha)).trans (hc i hi)⟩
def RowPost (T : TypeId) (w : World) (len : Nat) (zs : List Int) (e : Ending) (w' : World) : Prop :=
  ∃ g cap, e = .returned (.slice (some ⟨g, 0, none⟩) len cap) ∧ w'.ownsRow w.heap.size T 1 (.slice (some ⟨g, 0, none⟩) len cap) len (V zs) ∧ Below w.heap.size w w'
theorem own_shape {w : World} {base : Nat} {T : TypeId} {v : Value} {n : Nat} {xs : List Value} (h : w.ownsRow base T 1 v n xs) (hn : 0 < n) : ∃ g cap, v = .slice (some ⟨g, 0, none⟩) n cap := by
  rcases h.2 with ⟨_, h0⟩ | ⟨g, cap, _, hv, _⟩
  · omega
  · exact ⟨g, cap, hv⟩
theorem take_snoc (zs : List Int) (k : Nat) (h : k < zs.length) : V (zs.take k) ++ [.int .u8 (zs.getD k 0)] = V (zs.take (k + 1)) := by
  unfold V; rw [List.take_succ_eq_append_getElem h, List.map_append]; simp [h]
end Go.Proofs.YtejcjjimhaokfaaDoor.ListB
