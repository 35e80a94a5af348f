/-
  The walk of the closed law WordKnown: operations and comparisons of numbers about the ends of 32 and 64 bits.
-/
import Derived.Test.YtdkaccfombbdkaaLawB
import Derived.Test.YtdkaccfombbdkaaNumD
import Derived.Deep.RegionHeld3
namespace Go.Proofs.Ytdkaccfombbdkaa.Law
open Go.RowKit Go.Proofs.Ytdkaccfombbdkaa.Num
def ends : List Int := [0, 1, 2, 31, 32, 33, 63, 64, 2147483647, 2147483648, 4294967295, 4294967296, 9223372036854775807, 9223372036854775808, 18446744073709551615]
theorem ends_bd : ∀ k : Fin 15, 0 ≤ ends.getD k.val 0 ∧ ends.getD k.val 0 ≤ 18446744073709551615 := by decide
def NOk (n : Value) : Prop := n = .int .i64 16 ∨ n = .int .i64 32 ∨ n = .int .i64 64 ∨ n = .int .i64 128
/-- What is kept while the loops run: two cells of the row of numbers, and all that was there. -/
theorem known_alu (op : Int) (wide : Bool) (x y : Int) (B : Nat) (i k : Nat) (W w1 : World) (x0 : 0 ≤ x) (x1 : x ≤ 18446744073709551615) (y0 : 0 ≤ y) (y1 : y ≤ 18446744073709551615)
    (hs : w1.cell? ⟨B, i, none⟩ = some (.int .u64 x) ∧ w1.cell? ⟨B, k, none⟩ = some (.int .u64 y) ∧ Below (B + 1) W w1) (hB : B < W.heap.size) :
    Calls Try.prog 3 #[.int .i64 op, .bool wide, .int .u64 x, .int .u64 y] w1 fun e w' => e = .returned (.bool true) ∧ w'.cell? ⟨B, i, none⟩ = some (.int .u64 x) ∧ w'.cell? ⟨B, k, none⟩ = some (.int .u64 y) ∧ Below (B + 1) W w' :=
  (wordAlu op wide x y w1 x0 x1 y0 y1).mono fun _ _ ⟨he, h⟩ => ⟨he, (h.cell (by have := hs.2.2.size; show B < _; omega)).trans hs.1, (h.cell (by have := hs.2.2.size; show B < _; omega)).trans hs.2.1, hs.2.2.trans (h.mono (by have := hs.2.2.size; omega))⟩
theorem known_jumps (op : Int) (wide : Bool) (x y : Int) (B : Nat) (i k : Nat) (W w1 : World) (x0 : 0 ≤ x) (x1 : x ≤ 18446744073709551615) (y0 : 0 ≤ y) (y1 : y ≤ 18446744073709551615)
    (hs : w1.cell? ⟨B, i, none⟩ = some (.int .u64 x) ∧ w1.cell? ⟨B, k, none⟩ = some (.int .u64 y) ∧ Below (B + 1) W w1) (hB : B < W.heap.size) :
    Calls Try.prog 4 #[.int .i64 op, .bool wide, .int .u64 x, .int .u64 y] w1 fun e w' => e = .returned (.bool true) ∧ w'.cell? ⟨B, i, none⟩ = some (.int .u64 x) ∧ w'.cell? ⟨B, k, none⟩ = some (.int .u64 y) ∧ Below (B + 1) W w' :=
  (wordJumps op wide x y w1 x0 x1 y0 y1).mono fun _ _ ⟨he, h⟩ => ⟨he, (h.cell (by have := hs.2.2.size; show B < _; omega)).trans hs.1, (h.cell (by have := hs.2.2.size; show B < _; omega)).trans hs.2.1, hs.2.2.trans (h.mono (by have := hs.2.2.size; omega))⟩
set_option maxRecDepth 100000 in
set_option maxHeartbeats 2000000 in
theorem wordKnown (w : World) :
    Calls Try.prog 9 #[] w fun e w' => e = .returned (.bool true) ∧ Below w.heap.size w w' := by
  have hc0 : ∀ k, k < 15 → (w.alloc (Obj.cells #[Value.int IntKind.u64 0, Value.int IntKind.u64 1, Value.int IntKind.u64 2, Value.int IntKind.u64 31,
      Value.int IntKind.u64 32, Value.int IntKind.u64 33, Value.int IntKind.u64 63, Value.int IntKind.u64 64,
      Value.int IntKind.u64 2147483647, Value.int IntKind.u64 2147483648, Value.int IntKind.u64 4294967295,
      Value.int IntKind.u64 4294967296, Value.int IntKind.u64 9223372036854775807,
      Value.int IntKind.u64 9223372036854775808, Value.int IntKind.u64 18446744073709551615] 22)).cell? ⟨w.heap.size, k, none⟩ = some (.int .u64 (ends.getD k 0)) := fun k hk => by
    match k, hk with
    | 0, _ => simp [ends]
    | 1, _ => simp [ends]
    | 2, _ => simp [ends]
    | 3, _ => simp [ends]
    | 4, _ => simp [ends]
    | 5, _ => simp [ends]
    | 6, _ => simp [ends]
    | 7, _ => simp [ends]
    | 8, _ => simp [ends]
    | 9, _ => simp [ends]
    | 10, _ => simp [ends]
    | 11, _ => simp [ends]
    | 12, _ => simp [ends]
    | 13, _ => simp [ends]
    | 14, _ => simp [ends]
  have HC0 := hid hc0; clear hc0
  go_enter Try.func9, Try.ntmps9
  go_wp2
  have hc2 := HC0.out; clear HC0
  have hbel : Below w.heap.size w (w.alloc (Obj.cells #[Value.int IntKind.u64 0, Value.int IntKind.u64 1, Value.int IntKind.u64 2, Value.int IntKind.u64 31,
      Value.int IntKind.u64 32, Value.int IntKind.u64 33, Value.int IntKind.u64 63, Value.int IntKind.u64 64,
      Value.int IntKind.u64 2147483647, Value.int IntKind.u64 2147483648, Value.int IntKind.u64 4294967295,
      Value.int IntKind.u64 4294967296, Value.int IntKind.u64 9223372036854775807,
      Value.int IntKind.u64 9223372036854775808, Value.int IntKind.u64 18446744073709551615] 22)) := (Below.refl _ _).alloc (Nat.le_refl _) _
  have hsz : w.heap.size < (w.alloc (Obj.cells #[Value.int IntKind.u64 0, Value.int IntKind.u64 1, Value.int IntKind.u64 2, Value.int IntKind.u64 31,
      Value.int IntKind.u64 32, Value.int IntKind.u64 33, Value.int IntKind.u64 63, Value.int IntKind.u64 64,
      Value.int IntKind.u64 2147483647, Value.int IntKind.u64 2147483648, Value.int IntKind.u64 4294967295,
      Value.int IntKind.u64 4294967296, Value.int IntKind.u64 9223372036854775807,
      Value.int IntKind.u64 9223372036854775808, Value.int IntKind.u64 18446744073709551615] 22)).heap.size := by simp
  generalize w.alloc (Obj.cells #[Value.int IntKind.u64 0, Value.int IntKind.u64 1, Value.int IntKind.u64 2, Value.int IntKind.u64 31,
      Value.int IntKind.u64 32, Value.int IntKind.u64 33, Value.int IntKind.u64 63, Value.int IntKind.u64 64,
      Value.int IntKind.u64 2147483647, Value.int IntKind.u64 2147483648, Value.int IntKind.u64 4294967295,
      Value.int IntKind.u64 4294967296, Value.int IntKind.u64 9223372036854775807,
      Value.int IntKind.u64 9223372036854775808, Value.int IntKind.u64 18446744073709551615] 22) = W at hc2 hbel hsz ⊢
  have HC := hid hc2; clear hc2
  go_loopw [2, 3, 4, 5, 6, 7, 8, 9, 10, 11] (fun i _ _ _ _ _ _ _ _ _ wr => ∃ k : Nat, k ≤ 15 ∧ i = .int .i64 k ∧ Below (w.heap.size + 1) W wr) (fun i _ _ _ _ _ _ _ _ _ _ => 15 - (intOf i).toNat)
  case atStart => exact ⟨0, Nat.zero_le _, rfl, Below.refl _ _⟩
  case round =>
    obtain ⟨i, hi, rfl, hb⟩ := hrel
    by_cases hil : i < 15
    · have hci := HC.out i hil
      have hdi : decide ((i : Int) < 15) = true := by simp; omega
      have hi0 : (0 : Int) ≤ (i : Int) := by omega
      have hi1 : (i : Int) < 15 := by omega
      have bdi := ends_bd ⟨i, hil⟩
      simp only at bdi
      generalize ends.getD i 0 = x at hci bdi
      have hci' := hid hci; clear hci
      obtain ⟨x0, x1⟩ := bdi
      obtain ⟨wo, rfl⟩ : ∃ wo : World, wo = wr := ⟨_, rfl⟩
      go_wp2
      go_loopw [3, 4] (fun k _ wr => ∃ m : Nat, m ≤ 15 ∧ k = .int .i64 m ∧ Below (w.heap.size + 1) W wr) (fun k _ _ => 15 - (intOf k).toNat)
      case atStart => exact ⟨0, Nat.zero_le _, rfl, hb⟩
      case round =>
        obtain ⟨k, hk, rfl, hb2⟩ := hrel
        by_cases hkl : k < 15
        · have hck := HC.out k hkl
          have hdk : decide ((k : Int) < 15) = true := by simp; omega
          have hk0 : (0 : Int) ≤ (k : Int) := by omega
          have hk1 : (k : Int) < 15 := by omega
          have bdk := ends_bd ⟨k, hkl⟩
          simp only at bdk
          generalize ends.getD k 0 = y at hck bdk
          have hck' := hid hck; clear hck
          obtain ⟨y0, y1⟩ := bdk
          obtain ⟨wp, rfl⟩ : ∃ wp : World, wp = wr := ⟨_, rfl⟩
          go_wp2
          go_loopw [4] (fun o wr => ∃ m : Nat, m ≤ 16 ∧ o = .int .i64 (16 * m : Nat) ∧ Below (w.heap.size + 1) W wr) (fun o _ => 256 - (intOf o).toNat)
          case atStart => exact ⟨0, Nat.zero_le _, rfl, hb2⟩
          case round =>
            obtain ⟨m, hm, rfl, hb3⟩ := hrel
            by_cases hml : m < 16
            · have hi3 : wr.cell? ⟨w.heap.size, i, none⟩ = some (.int .u64 x) := (hb3.cell (by show w.heap.size < _; omega)).trans hci'.out
              have hk3 : wr.cell? ⟨w.heap.size, k, none⟩ = some (.int .u64 y) := (hb3.cell (by show w.heap.size < _; omega)).trans hck'.out
              go_wp2
              go_region_held3 (fun w' => w'.cell? ⟨w.heap.size, i, none⟩ = some (.int .u64 x) ∧ w'.cell? ⟨w.heap.size, k, none⟩ = some (.int .u64 y) ∧ Below (w.heap.size + 1) W w')
                (first | exact ⟨by assumption, by assumption, by assumption⟩ | exact ⟨by simpa using hi3, by simpa using hk3, Below.drew hb3⟩)
                (first
                  | (go_at_call 3; refine (known_alu _ _ x y w.heap.size i k W _ x0 x1 y0 y1 (by assumption) hsz).mono ?_; rintro e w' ⟨rfl, g1, g2, g3⟩)
                  | (go_at_call 4; refine (known_jumps _ _ x y w.heap.size i k W _ x0 x1 y0 y1 (by assumption) hsz).mono ?_; rintro e w' ⟨rfl, g1, g2, g3⟩))
              have hS : wr.cell? ⟨w.heap.size, i, none⟩ = some (.int .u64 x) := hi3
              go_wp2
              go_roundw
              case rel => exact ⟨m + 1, by omega, by go_num, And.right (And.right (by assumption))⟩
              case measure => simp [intOf]; omega
            · have : m = 16 := by omega
              subst this
              go_wp2
              go_roundw
              case rel => exact ⟨k + 1, by omega, by go_num, hb3⟩
              case measure => simp [intOf]; omega
        · have hdk : decide ((k : Int) < 15) = false := by simp; omega
          clear hkl
          have hi4 : wr.cell? ⟨w.heap.size, i, none⟩ = some (.int .u64 x) := (hb2.cell (by show w.heap.size < _; omega)).trans hci'.out
          go_wp2
          obtain ⟨wq, rfl⟩ : ∃ wq : World, wq = wr := ⟨_, rfl⟩
          go_loopw [5] (fun n wr => NOk n ∧ Below (w.heap.size + 1) W wr) (fun n _ => 128 - (intOf n).toNat)
          case atStart => exact ⟨Or.inl rfl, hb2⟩
          case round =>
            obtain ⟨hrel, hb5⟩ := hrel
            unfold NOk at hrel
            have hi5 : wr.cell? ⟨w.heap.size, i, none⟩ = some (.int .u64 x) := (hb5.cell (by show w.heap.size < _; omega)).trans hci'.out
            rcases hrel with rfl | rfl | rfl | rfl
            · go_wp2_with fail
              refine (Swap.wswap_any _ _ _ _ x0 x1).mono ?_
              rintro e w' ⟨rfl, rfl⟩
              rw [show swapIs 16 = true from rfl]
              go_wp2_with fail
              refine (Swap.wswap_any _ _ _ _ (swap_lo 16 (by decide) _) (swap_hi 16 (by decide) _)).mono ?_
              rintro e w' ⟨rfl, rfl⟩
              rw [show swapIs 16 = true from rfl, swap_back 16 (by decide) x x0 x1]
              go_wp2_with fail
              refine (Swap.wswap_any _ _ _ _ x0 x1).mono ?_
              rintro e w' ⟨rfl, rfl⟩
              rw [show swapIs 16 = true from rfl]
              go_wp2
              go_roundw
              case rel => exact ⟨Or.inr (Or.inl rfl), hb5⟩
              case measure => simp [intOf]
            · go_wp2_with fail
              refine (Swap.wswap_any _ _ _ _ x0 x1).mono ?_
              rintro e w' ⟨rfl, rfl⟩
              rw [show swapIs 32 = true from rfl]
              go_wp2_with fail
              refine (Swap.wswap_any _ _ _ _ (swap_lo 32 (by decide) _) (swap_hi 32 (by decide) _)).mono ?_
              rintro e w' ⟨rfl, rfl⟩
              rw [show swapIs 32 = true from rfl, swap_back 32 (by decide) x x0 x1]
              go_wp2_with fail
              refine (Swap.wswap_any _ _ _ _ x0 x1).mono ?_
              rintro e w' ⟨rfl, rfl⟩
              rw [show swapIs 32 = true from rfl]
              go_wp2
              go_roundw
              case rel => exact ⟨Or.inr (Or.inr (Or.inl rfl)), hb5⟩
              case measure => simp [intOf]
            · go_wp2_with fail
              refine (Swap.wswap_any _ _ _ _ x0 x1).mono ?_
              rintro e w' ⟨rfl, rfl⟩
              rw [show swapIs 64 = true from rfl]
              go_wp2_with fail
              refine (Swap.wswap_any _ _ _ _ (swap_lo 64 (by decide) _) (swap_hi 64 (by decide) _)).mono ?_
              rintro e w' ⟨rfl, rfl⟩
              rw [show swapIs 64 = true from rfl, swap_back 64 (by decide) x x0 x1]
              go_wp2_with fail
              refine (Swap.wswap_any _ _ _ _ x0 x1).mono ?_
              rintro e w' ⟨rfl, rfl⟩
              rw [show swapIs 64 = true from rfl]
              go_wp2
              go_roundw
              case rel => exact ⟨Or.inr (Or.inr (Or.inr rfl)), hb5⟩
              case measure => simp [intOf]
            · go_wp2
              go_roundw
              case rel => exact ⟨i + 1, by omega, by go_num, hb5⟩
              case measure => simp [intOf]; omega
    · have : i = 15 := by omega
      subst this
      go_wp2_with fail
      refine (WordA.alu_any 208 true 1 2 _ (by decide) (by decide) (by decide) (by decide)).mono ?_
      rintro e w' ⟨rfl, rfl⟩
      rw [show aluIs 208 = false from rfl]
      go_wp2_with fail
      refine (WordA.jump_any 0 true 1 1 _ (by decide) (by decide) (by decide) (by decide)).mono ?_
      rintro e w' ⟨rfl, rfl⟩
      rw [show jmpIs 0 = false from rfl]
      go_wp2_with fail
      refine (Swap.wswap_any 8 true 1 _ (by decide) (by decide)).mono ?_
      rintro e w' ⟨rfl, rfl⟩
      rw [show swapIs 8 = false from rfl]
      go_wp2_with fail
      refine (alu_yes 144 false 4294967303 0 _ rfl (by decide) (by decide) (by decide) (by decide)).mono ?_
      rintro e w' ⟨rfl, rfl⟩
      rw [show aluA 144 false 4294967303 0 = 7 from by decide]
      go_wp2_with fail
      refine (alu_yes 48 true 7 0 _ rfl (by decide) (by decide) (by decide) (by decide)).mono ?_
      rintro e w' ⟨rfl, rfl⟩
      rw [show aluA 48 true 7 0 = 0 from by decide]
      go_wp2_with fail
      refine (works_any _).mono ?_
      rintro e w' ⟨rfl, hw⟩
      go_wp2
      go_ret
      exact ⟨rfl, hbel.trans ((hb.mono (by omega)).trans (hw.mono (by have := hb.size; omega)))⟩
end Go.Proofs.Ytdkaccfombbdkaa.Law
