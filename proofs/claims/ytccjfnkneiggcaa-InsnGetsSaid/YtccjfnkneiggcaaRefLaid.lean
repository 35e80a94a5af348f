/-
  Contracts of the document's instructions: laid.
-/
import Derived.Test.YtccjfnkneiggcaaRefHas
import Derived.Test.YtccjfnkneiggcaaListA
namespace Go.Proofs.Ytccjfnkneiggcaa.Insn
open Go.RowKit Go.Proofs.Ytccjfnkneiggcaa.Num Go.Proofs.Ytccjfnkneiggcaa.ListB
/-- The k lowest bytes of a number, the lowest first. -/
def laidL (u n : Nat) : List Int := (List.range n).map fun k => ((u / 256 ^ k % 256 : Nat) : Int)
theorem laidL_snoc (u k : Nat) : V (laidL u k) ++ [.int .u8 ((u / 256 ^ k % 256 : Nat) : Int)] = V (laidL u (k + 1)) := by
  unfold laidL V; rw [List.range_succ]; simp
theorem laid_step (u k : Nat) : u / 256 ^ (k + 1) = u / 256 ^ k / 256 := by
  rw [Nat.pow_succ, Nat.div_div_eq_div_mul]
theorem laid_le (u k : Nat) : u / 256 ^ k ≤ u := Nat.div_le_self _ _
/-- What a number of 64 bits is without its sign. -/
def unsig (v : Int) : Nat := (v % 18446744073709551616).toNat
theorem unsig_of (v : Int) : ((unsig v : Nat) : Int) = v % 18446744073709551616 := by unfold unsig; omega
theorem unsig_lt (v : Int) : unsig v < 18446744073709551616 := by unfold unsig; omega
set_option maxHeartbeats 2000000 in
theorem laid_any (v : Int) (n : Nat) (w : World) (hn : n ≤ 8) :
    Calls Try.prog 44 #[.int .i64 v, .int .i64 n] w fun e w' => ∃ o, e = .returned o ∧ w'.ownsRow w.heap.size 5 1 o n (V (laidL (unsig v) n)) ∧ Below w.heap.size w w' := by
  obtain ⟨i0, hi, hz0, hz1, hz2⟩ := info_parts info8
  have HU := hid (unsig_of v)
  have ulim := unsig_lt v
  generalize unsig v = q at HU ulim ⊢
  go_enter Try.func44, Try.ntmps44
  go_wp2
  rw [show IntKind.u64.wrap v = (q : Int) by rw [HU.out]; simp [IntKind.wrap, IntKind.bits, IntKind.signed]]
  have hq : Hid (q = q / 256 ^ 0) := hid (by simp)
  clear HU
  go_loopw [5, 6, 7] (fun o u i wr => ∃ k : Nat, k ≤ n ∧ i = .int .i64 k ∧ u = .int .u64 (q / 256 ^ k : Nat) ∧ wr.ownsRow w.heap.size 5 1 o k (V (laidL q k)) ∧ Below w.heap.size w wr) (fun _ _ i _ => n - (intOf i).toNat)
  case atStart => exact ⟨0, Nat.zero_le _, rfl, by rw [← hq.out], World.ownsRow_nil _ _ _ _, Below.refl _ _⟩
  case round =>
    obtain ⟨k, hk, rfl, rfl, hown, hbel⟩ := hrel
    by_cases hlt : k < n
    · have hsn := laidL_snoc q k
      have hvn := hid (laid_step q k)
      have ul := laid_le q k
      have hsz := hbel.size
      generalize q / 256 ^ k = u at hvn ul hsn ⊢
      have HS := hid hsn; clear hsn
      go_wp2_with (at_builtin; refine wpList_append_own _ rfl _ _ 33 rfl w.heap.size 5 i0 (.int .u8 0) 1 1 Try.underlying33 hi hz0 hz1 hz2 rfl (by decide) _ _ _ rfl (hown.alloc _) ⟨wr.heap.size, 0, none⟩ 1 1 [.int .u8 ((u : Int) % 256)] rfl rfl ?d1 ?d2 ?d3 ?d4 ?d5 ?_)
      case d1 => exact cell_one_new _ _ _
      case d2 => intro u hu; simp at hu; subst hu; rfl
      case d3 => unfold maxLen; omega
      case d4 => omega
      case d5 => simp; omega
      intro v' w1 hown' hgrow _
      rw [show [Value.int .u8 ((u : Int) % 256)] = [Value.int .u8 ((u % 256 : Nat) : Int)] by simp, HS.out] at hown'
      have hbel' : Below w.heap.size w w1 := (hbel.alloc hsz _).grown hgrow (by simp; omega) (fun q hq => (hown.alloc (.cells #[.int .u8 ((u : Int) % 256)] 5)).lt q hq |>.1)
      clear hgrow hown hbel
      go_wp2
      go_roundw
      case rel => exact ⟨k + 1, by omega, by go_num, by rw [hvn.out]; simp, hown', hbel'⟩
      case measure => simp [intOf]; omega
    · have hkk : k = n := by omega
      have hown2 := hown
      rw [hkk] at hown2
      clear hown
      have hge : n ≤ k := by omega
      clear hkk hlt
      go_wp2
      go_ret
      exact ⟨_, rfl, hown2, hbel⟩
end Go.Proofs.Ytccjfnkneiggcaa.Insn
