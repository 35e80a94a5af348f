/-
  Contracts of the kit's lists of bytes: a copy, a comparison.
-/
import Derived.Test.YtccjfnkneiggcaaRows
import Derived.Test.YtccjfnkneiggcaaNumC
import Derived.WalkKit
import Derived.WalkSpells
import Derived.WalkLawsBesides
import Derived.Deep.QuietTactic
import Derived.BigQuiet
namespace Go.Proofs.Ytccjfnkneiggcaa.ListB
open Go.RowKit Go.Proofs.Ytccjfnkneiggcaa.Num
theorem info8 : (Try.prog.info? 5).map (fun i => (i.zero, i.size, i.bytes)) = some (some (.int .u8 0), 1, 1) := by kernel_rfl
/-- Bytes as the memory holds them. -/
def V (zs : List Int) : List Value := zs.map (Value.int .u8)
/-- A slice of bytes that is there to be read: nothing is asked of an empty one. -/
def Arg (w : World) (a : Option Addr) (len : Nat) (zs : List Int) : Prop :=
  zs.length = len ∧ (∀ i, 0 ≤ zs.getD i 0 ∧ zs.getD i 0 ≤ 255) ∧
  (0 < len → ∃ b off, a = some ⟨b, off, none⟩ ∧ b < w.heap.size ∧ ∀ i, i < len → w.cell? ⟨b, off + i, none⟩ = some (.int .u8 (zs.getD i 0)))
theorem Arg.below {w w' : World} {a : Option Addr} {len : Nat} {zs : List Int} (h : Arg w a len zs) {B : Nat} (hb : Below B w w') (hB : ∀ b off, a = some ⟨b, off, none⟩ → b < B) : Arg w' a len zs := by
  refine ⟨h.1, h.2.1, fun hl => ?_⟩
  obtain ⟨b, off, ha, hw, hc⟩ := h.2.2 hl
  exact ⟨b, off, ha, Nat.lt_of_lt_of_le hw hb.size, fun i hi => (hb.cell (hB b off ha)).trans (hc i hi)⟩
theorem copy_nil (a : Option Addr) (cap : Nat) (w : World) :
    Calls Try.prog 31 #[.slice a 0 cap] w fun e w' => e = .returned (.slice none 0 0) ∧ w = w' := by
  go_enter Try.func31, Try.ntmps31
  go_wp2
  refine wp_loop_rounds 1 ?_
  rw [rounds_succ]
  go_wp2
  go_ret
  exact ⟨rfl, rfl⟩
def RowPost (T : TypeId) (w : World) (len : Nat) (zs : List Int) (e : Ending) (w' : World) : Prop :=
  ∃ g cap, e = .returned (.slice (some ⟨g, 0, none⟩) len cap) ∧ w'.ownsRow w.heap.size T 1 (.slice (some ⟨g, 0, none⟩) len cap) len (V zs) ∧ Below w.heap.size w w'
theorem own_shape {w : World} {base : Nat} {T : TypeId} {v : Value} {n : Nat} {xs : List Value} (h : w.ownsRow base T 1 v n xs) (hn : 0 < n) : ∃ g cap, v = .slice (some ⟨g, 0, none⟩) n cap := by
  rcases h.2 with ⟨_, h0⟩ | ⟨g, cap, _, hv, _⟩
  · omega
  · exact ⟨g, cap, hv⟩
theorem take_snoc (zs : List Int) (k : Nat) (h : k < zs.length) : V (zs.take k) ++ [.int .u8 (zs.getD k 0)] = V (zs.take (k + 1)) := by
  unfold V; rw [List.take_succ_eq_append_getElem h, List.map_append]; simp [h]
set_option maxHeartbeats 400000 in
theorem copy_row (a : Option Addr) (len cap : Nat) (zs : List Int) (w : World) (h : Arg w a len zs) (h0 : 0 < len) (hl : len ≤ 140737488355328) :
    Calls Try.prog 31 #[.slice a len cap] w (RowPost 5 w len zs) := by
  obtain ⟨hz, hbd, hr⟩ := h
  obtain ⟨b, off, rfl, hb, hc⟩ := hr h0
  have HC := hid hc; have HZ := hid hz; clear hc hr hbd hz
  obtain ⟨i0, hi, hz0, hz1, hz2⟩ := info_parts info8
  go_enter Try.func31, Try.ntmps31
  go_wp2
  go_loopw [3, 4] (fun v i wr => ∃ k : Nat, k ≤ len ∧ i = .int .i64 k ∧ wr.ownsRow w.heap.size 5 1 v k (V (zs.take k)) ∧ Below w.heap.size w wr) (fun _ i _ => len - (intOf i).toNat)
  case atStart => exact ⟨0, Nat.zero_le _, rfl, World.ownsRow_nil _ _ _ _, Below.refl _ _⟩
  case round =>
    obtain ⟨k, hk, rfl, hown, hbel⟩ := hrel
    by_cases hlt : k < len
    · have hck := (hbel.cell (show b < _ from hb)).trans (HC.out k hlt)
      have hsn := take_snoc zs k (by rw [HZ.out]; exact hlt)
      generalize zs.getD k 0 = x at hck hsn
      have HS := hid hsn; clear hsn
      have hsz := hbel.size
      go_wp2_with (at_builtin; refine wpList_append_own _ rfl _ _ 33 rfl w.heap.size 5 i0 (.int .u8 0) 1 1 Try.underlying33 hi hz0 hz1 hz2 rfl (by decide) _ _ _ rfl (hown.alloc _) ⟨wr.heap.size, 0, none⟩ 1 1 [.int .u8 x] rfl rfl ?c1 ?c2 ?c3 ?c4 ?c5 ?_)
      case c1 => exact cell_one_new _ _ _
      case c2 => intro u hu; simp at hu; subst hu; rfl
      case c3 => unfold maxLen; omega
      case c4 => omega
      case c5 => simp; omega
      intro v' w1 hown' hgrow _
      rw [HS.out] at hown'
      have hbel' : Below w.heap.size w w1 := (hbel.alloc hsz _).grown hgrow (by simp; omega) (fun q hq => (hown.alloc (.cells #[.int .u8 x] 5)).lt q hq |>.1)
      clear hgrow hown hck hbel
      go_wp2
      go_roundw
      case rel => exact ⟨k + 1, by omega, by go_num, hown', hbel'⟩
      case measure => simp [intOf]; omega
    · have hk' : len ≤ k := by omega
      have hkk : k = len := by omega
      have hown2 := hown
      rw [hkk, List.take_of_length_le (by rw [HZ.out]; omega)] at hown2
      clear hown
      go_wp2
      go_ret
      obtain ⟨g, c, rfl⟩ := own_shape hown2 h0
      exact ⟨g, c, rfl, hown2, hbel⟩
end Go.Proofs.Ytccjfnkneiggcaa.ListB
