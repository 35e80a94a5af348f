/-
  Contracts of the document's rows of instructions: has, Atomic, Class, Size.
-/
import Derived.Test.YtccjfnkneiggcaaRefFind
namespace Go.Proofs.Ytccjfnkneiggcaa.Insn
open Go.RowKit Go.Proofs.Ytccjfnkneiggcaa.Num
def hasB (s : ByteArray) (c : Int) : Bool := s.data.toList.any (fun b => (b.toNat : Int) == c)
theorem hasB_no (s : ByteArray) (c : Int) (h : ∀ j (hj : j < s.size), ((s[j].toNat : Int) == c) = false) : hasB s c = false := by
  unfold hasB
  rw [List.any_eq_false]
  intro b hb
  obtain ⟨j, hj, rfl⟩ := List.getElem_of_mem hb
  have e := h j (by simpa using hj)
  intro hc
  have hc' : (((s[j]'(by simpa using hj)).toNat : Int) == c) = true := hc
  rw [e] at hc'; cases hc'
theorem hasB_yes (s : ByteArray) (c : Int) (j : Nat) (hj : j < s.size) (h : ((s[j].toNat : Int) == c) = true) : hasB s c = true := by
  unfold hasB
  rw [List.any_eq_true]
  exact ⟨s[j], by show s.data[j] ∈ s.data.toList; exact Array.getElem_mem_toList hj, h⟩
set_option maxHeartbeats 1000000 in
theorem has_any (s : ByteArray) (c : Int) (w : World) (hs : s.size ≤ 9223372036854775807) :
    Calls Try.prog 40 #[.string s, .int .u8 c] w fun e w' => e = .returned (.bool (hasB s c)) ∧ w = w' := by
  go_enter Try.func40, Try.ntmps40
  go_wp2
  go_loop [5] (fun i => ∃ k : Nat, k ≤ s.size ∧ i = .int .i64 k ∧ Hid (∀ j (hj : j < s.size), j < k → ((s[j].toNat : Int) == c) = false)) (fun i => s.size - (intOf i).toNat)
  case atStart => exact ⟨0, Nat.zero_le _, rfl, hid (fun j _ hj => by omega)⟩
  case round =>
    obtain ⟨k, hk, rfl, HE⟩ := hrel
    by_cases hlt : k < s.size
    · cases hb : ((s[k].toNat : Int) == c)
      · go_wp2
        go_round
        case rel => exact ⟨k + 1, by omega, by go_num, hid (fun j hj hjk => by
          by_cases e : j = k
          · subst e; exact hb
          · exact HE.out j hj (by omega))⟩
        case measure => simp [intOf]; omega
      · have Y := hid (hasB_yes s c k hlt hb)
        go_wp2
        go_ret
        exact ⟨by rw [Y.out]; rfl, rfl⟩
    · have Nn := hid (hasB_no s c (fun j hj => HE.out j hj (by omega)))
      go_wp2
      go_ret
      exact ⟨by rw [Nn.out]; rfl, rfl⟩
def atomIs (m : Int) : Bool := m == 0 || m == 64 || m == 80 || m == 160 || m == 1 || m == 65 || m == 81 || m == 161 || m == 225 || m == 241
def atomF (m : Int) : Bool := m == 1 || m == 65 || m == 81 || m == 161 || m == 225 || m == 241
theorem atomic_any (m : Int) (w : World) :
    Calls Try.prog 10 #[.int .i64 m] w fun e w' => e = .returned (.tuple #[.bool (atomIs m), .bool (atomF m)]) ∧ w = w' := by
  by_cases h0 : m = 0
  · subst h0
    go_enter Try.func10, Try.ntmps10
    go_wp2
    go_ret2
    exact ⟨rfl, rfl⟩
  by_cases h1 : m = 64
  · subst h1
    go_enter Try.func10, Try.ntmps10
    go_wp2
    go_ret2
    exact ⟨rfl, rfl⟩
  by_cases h2 : m = 80
  · subst h2
    go_enter Try.func10, Try.ntmps10
    go_wp2
    go_ret2
    exact ⟨rfl, rfl⟩
  by_cases h3 : m = 160
  · subst h3
    go_enter Try.func10, Try.ntmps10
    go_wp2
    go_ret2
    exact ⟨rfl, rfl⟩
  by_cases h4 : m = 1
  · subst h4
    go_enter Try.func10, Try.ntmps10
    go_wp2
    go_ret2
    exact ⟨rfl, rfl⟩
  by_cases h5 : m = 65
  · subst h5
    go_enter Try.func10, Try.ntmps10
    go_wp2
    go_ret2
    exact ⟨rfl, rfl⟩
  by_cases h6 : m = 81
  · subst h6
    go_enter Try.func10, Try.ntmps10
    go_wp2
    go_ret2
    exact ⟨rfl, rfl⟩
  by_cases h7 : m = 161
  · subst h7
    go_enter Try.func10, Try.ntmps10
    go_wp2
    go_ret2
    exact ⟨rfl, rfl⟩
  by_cases h8 : m = 225
  · subst h8
    go_enter Try.func10, Try.ntmps10
    go_wp2
    go_ret2
    exact ⟨rfl, rfl⟩
  by_cases h9 : m = 241
  · subst h9
    go_enter Try.func10, Try.ntmps10
    go_wp2
    go_ret2
    exact ⟨rfl, rfl⟩
  have e0 : (m == 0) = false := by simp [h0]
  have e1 : (m == 64) = false := by simp [h1]
  have e2 : (m == 80) = false := by simp [h2]
  have e3 : (m == 160) = false := by simp [h3]
  have e4 : (m == 1) = false := by simp [h4]
  have e5 : (m == 65) = false := by simp [h5]
  have e6 : (m == 81) = false := by simp [h6]
  have e7 : (m == 161) = false := by simp [h7]
  have e8 : (m == 225) = false := by simp [h8]
  have e9 : (m == 241) = false := by simp [h9]
  have hi : atomIs m = false := by simp only [atomIs, e0, e1, e2, e3, e4, e5, e6, e7, e8, e9]; rfl
  have hf : atomF m = false := by simp only [atomF, e4, e5, e6, e7, e8, e9]; rfl
  rw [hi, hf]
  clear hi hf h0 h1 h2 h3 h4 h5 h6 h7 h8 h9
  go_enter Try.func10, Try.ntmps10
  go_wp2
  go_ret2
  exact ⟨rfl, rfl⟩
theorem tm8 (a : Int) : (0 ≤ a.tmod 8 → a.tmod 8 = a % 8 ∧ a.tdiv 8 = a / 8) ∧ (a.tmod 8 < 0 → a.tmod 8 + 8 = a % 8 ∧ a.tdiv 8 - 1 = a / 8) ∧ -8 < a.tmod 8 ∧ a.tmod 8 < 8 := by
  have h := Int.tmod_def a 8
  have e := @Int.tmod_eq_emod a 8
  have d := Int.mul_ediv_add_emod a 8
  split at e <;> omega
theorem tm4 (a : Int) : (0 ≤ a.tmod 4 → a.tmod 4 = a % 4) ∧ (a.tmod 4 < 0 → a.tmod 4 + 4 = a % 4) ∧ -4 < a.tmod 4 ∧ a.tmod 4 < 4 := by
  have e := @Int.tmod_eq_emod a 4
  split at e <;> omega
theorem class_any (op : Int) (w : World) :
    Calls Try.prog 14 #[.int .i64 op] w fun e w' => e = .returned (.int .i64 (op % 8)) ∧ w = w' := by
  have t := tm8 op
  have b0 : -8 < op.tmod 8 := t.2.2.1
  have b1 : op.tmod 8 < 8 := t.2.2.2
  by_cases hn : op.tmod 8 < 0
  · have T := hid (t.2.1 hn).1
    clear t
    go_enter Try.func14, Try.ntmps14
    go_wp2
    go_ret
    exact ⟨by rw [← T.out]; rfl, rfl⟩
  · have hn' : 0 ≤ op.tmod 8 := by omega
    have T := hid (t.1 hn').1
    clear t hn
    go_enter Try.func14, Try.ntmps14
    go_wp2
    go_ret
    exact ⟨by rw [← T.out]; rfl, rfl⟩
def sizeR (op : Int) : Int := if op / 8 % 4 = 0 then 4 else if op / 8 % 4 = 1 then 2 else if op / 8 % 4 = 2 then 1 else 8
set_option maxHeartbeats 1000000 in
theorem size_any (op : Int) (w : World) (h0 : -9223372036854775808 ≤ op) (h1 : op ≤ 9223372036854775807) :
    Calls Try.prog 16 #[.int .i64 op] w fun e w' => e = .returned (.int .i64 (sizeR op)) ∧ Below w.heap.size w w' := by
  have t := tm8 op
  have b0 : -8 < op.tmod 8 := t.2.2.1
  have b1 : op.tmod 8 < 8 := t.2.2.2
  have u := tm4 (op / 8)
  have c0 : -4 < (op / 8).tmod 4 := u.2.2.1
  have c1 : (op / 8).tmod 4 < 4 := u.2.2.2
  have q0 : -1152921504606846976 ≤ op / 8 := by omega
  have q1 : op / 8 ≤ 1152921504606846975 := by omega
  have four : op / 8 % 4 = 0 ∨ op / 8 % 4 = 1 ∨ op / 8 % 4 = 2 ∨ op / 8 % 4 = 3 := by omega
  have S : ∀ k : Int, op / 8 % 4 = k → sizeR op = (if k = 0 then 4 else if k = 1 then 2 else if k = 2 then 1 else 8) := fun k hk => by unfold sizeR; rw [hk]
  by_cases hn : op.tmod 8 < 0
  · have T : op.tdiv 8 = op / 8 + 1 := by have := (t.2.1 hn).2; omega
    clear t
    rcases four with e | e | e | e
    · have E := hid (S 0 e)
      clear S
      have e' : (op / 8).tmod 4 = 0 := by omega
      clear u e c0 c1
      go_enter Try.func16, Try.ntmps16
      go_wp2
      go_ret
      exact ⟨by rw [E.out]; rfl, (Below.refl _ _).alloc (Nat.le_refl _) _⟩
    · have E := hid (S 1 e)
      clear S
      by_cases hm : (op / 8).tmod 4 < 0
      · have e' : (op / 8).tmod 4 = -3 := by omega
        clear u e c0 c1 hm
        go_enter Try.func16, Try.ntmps16
        go_wp2
        go_ret
        exact ⟨by rw [E.out]; rfl, (Below.refl _ _).alloc (Nat.le_refl _) _⟩
      · have e' : (op / 8).tmod 4 = 1 := by omega
        clear u e c0 c1 hm
        go_enter Try.func16, Try.ntmps16
        go_wp2
        go_ret
        exact ⟨by rw [E.out]; rfl, (Below.refl _ _).alloc (Nat.le_refl _) _⟩
    · have E := hid (S 2 e)
      clear S
      by_cases hm : (op / 8).tmod 4 < 0
      · have e' : (op / 8).tmod 4 = -2 := by omega
        clear u e c0 c1 hm
        go_enter Try.func16, Try.ntmps16
        go_wp2
        go_ret
        exact ⟨by rw [E.out]; rfl, (Below.refl _ _).alloc (Nat.le_refl _) _⟩
      · have e' : (op / 8).tmod 4 = 2 := by omega
        clear u e c0 c1 hm
        go_enter Try.func16, Try.ntmps16
        go_wp2
        go_ret
        exact ⟨by rw [E.out]; rfl, (Below.refl _ _).alloc (Nat.le_refl _) _⟩
    · have E := hid (S 3 e)
      clear S
      by_cases hm : (op / 8).tmod 4 < 0
      · have e' : (op / 8).tmod 4 = -1 := by omega
        clear u e c0 c1 hm
        go_enter Try.func16, Try.ntmps16
        go_wp2
        go_ret
        exact ⟨by rw [E.out]; rfl, (Below.refl _ _).alloc (Nat.le_refl _) _⟩
      · have e' : (op / 8).tmod 4 = 3 := by omega
        clear u e c0 c1 hm
        go_enter Try.func16, Try.ntmps16
        go_wp2
        go_ret
        exact ⟨by rw [E.out]; rfl, (Below.refl _ _).alloc (Nat.le_refl _) _⟩
  · have hn' : 0 ≤ op.tmod 8 := by omega
    have T : op.tdiv 8 = op / 8 := (t.1 hn').2
    clear hn
    clear t
    rcases four with e | e | e | e
    · have E := hid (S 0 e)
      clear S
      have e' : (op / 8).tmod 4 = 0 := by omega
      clear u e c0 c1
      go_enter Try.func16, Try.ntmps16
      go_wp2
      go_ret
      exact ⟨by rw [E.out]; rfl, (Below.refl _ _).alloc (Nat.le_refl _) _⟩
    · have E := hid (S 1 e)
      clear S
      by_cases hm : (op / 8).tmod 4 < 0
      · have e' : (op / 8).tmod 4 = -3 := by omega
        clear u e c0 c1 hm
        go_enter Try.func16, Try.ntmps16
        go_wp2
        go_ret
        exact ⟨by rw [E.out]; rfl, (Below.refl _ _).alloc (Nat.le_refl _) _⟩
      · have e' : (op / 8).tmod 4 = 1 := by omega
        clear u e c0 c1 hm
        go_enter Try.func16, Try.ntmps16
        go_wp2
        go_ret
        exact ⟨by rw [E.out]; rfl, (Below.refl _ _).alloc (Nat.le_refl _) _⟩
    · have E := hid (S 2 e)
      clear S
      by_cases hm : (op / 8).tmod 4 < 0
      · have e' : (op / 8).tmod 4 = -2 := by omega
        clear u e c0 c1 hm
        go_enter Try.func16, Try.ntmps16
        go_wp2
        go_ret
        exact ⟨by rw [E.out]; rfl, (Below.refl _ _).alloc (Nat.le_refl _) _⟩
      · have e' : (op / 8).tmod 4 = 2 := by omega
        clear u e c0 c1 hm
        go_enter Try.func16, Try.ntmps16
        go_wp2
        go_ret
        exact ⟨by rw [E.out]; rfl, (Below.refl _ _).alloc (Nat.le_refl _) _⟩
    · have E := hid (S 3 e)
      clear S
      by_cases hm : (op / 8).tmod 4 < 0
      · have e' : (op / 8).tmod 4 = -1 := by omega
        clear u e c0 c1 hm
        go_enter Try.func16, Try.ntmps16
        go_wp2
        go_ret
        exact ⟨by rw [E.out]; rfl, (Below.refl _ _).alloc (Nat.le_refl _) _⟩
      · have e' : (op / 8).tmod 4 = 3 := by omega
        clear u e c0 c1 hm
        go_enter Try.func16, Try.ntmps16
        go_wp2
        go_ret
        exact ⟨by rw [E.out]; rfl, (Below.refl _ _).alloc (Nat.le_refl _) _⟩
end Go.Proofs.Ytccjfnkneiggcaa.Insn
