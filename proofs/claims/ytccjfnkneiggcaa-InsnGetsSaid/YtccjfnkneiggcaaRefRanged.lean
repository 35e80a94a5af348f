/-
  Contracts of the document's rows of instructions: ranged.
-/
import Derived.Test.YtccjfnkneiggcaaRefHas
namespace Go.Proofs.Ytccjfnkneiggcaa.Insn
open Go.RowKit Go.Proofs.Ytccjfnkneiggcaa.Num
def insnV (op d s o m : Int) : Value := .agg #[.int .i64 op, .int .i64 d, .int .i64 s, .int .i64 o, .int .i64 m]
def rangedB (op s m lo hi : Int) : Bool :=
  if m < lo ∨ hi < m then false
  else if op = 195 ∨ op = 219 then atomIs m
  else if op = 212 ∨ op = 220 then m == 16 || m == 32 || m == 64
  else if op = 24 then s == 0 || (decide (0 ≤ m) && decide (m ≤ 2147483647))
  else true
set_option maxHeartbeats 4000000 in
theorem ranged_any (op d s o m : Int) (r : RowV) (w : World) :
    Calls Try.prog 41 #[insnV op d s o m, r.val] w fun e w' => e = .returned (.bool (rangedB op s m r.lo r.hi)) ∧ Below w.heap.size w w' := by
  obtain ⟨ri, rf, rw0, lo, hi⟩ := r
  unfold insnV RowV.val
  show Calls _ _ _ _ fun e w' => e = .returned (.bool (rangedB op s m lo hi)) ∧ Below w.heap.size w w'
  by_cases c1 : m < lo
  · have d1 : decide (m < lo) = true := by simpa using c1
    have E := hid (show rangedB op s m lo hi = false by unfold rangedB; rw [if_pos (Or.inl c1)])
    go_enter Try.func41, Try.ntmps41
    go_wp2
    go_ret
    exact ⟨by rw [E.out]; rfl, ((Below.refl _ _).alloc (Nat.le_refl _) _).alloc (by simp) _⟩
  have d1 : decide (m < lo) = false := by simpa using c1
  by_cases c2 : hi < m
  · have d2 : decide (hi < m) = true := by simpa using c2
    have E := hid (show rangedB op s m lo hi = false by unfold rangedB; rw [if_pos (Or.inr c2)])
    clear c1
    go_enter Try.func41, Try.ntmps41
    go_wp2
    go_ret
    exact ⟨by rw [E.out]; rfl, ((Below.refl _ _).alloc (Nat.le_refl _) _).alloc (by simp) _⟩
  have d2 : decide (hi < m) = false := by simpa using c2
  have n1 : ¬ (m < lo ∨ hi < m) := fun h => h.elim c1 c2
  clear c1 c2
  by_cases a195 : op = 195
  · subst a195
    have E := hid (show rangedB 195 s m lo hi = atomIs m by unfold rangedB; rw [if_neg n1, if_pos (by decide)])
    clear n1
    go_enter Try.func41, Try.ntmps41
    go_wp2_with fail
    refine (atomic_any _ _).mono ?_
    rintro e w' ⟨rfl, rfl⟩
    go_wp2
    go_ret
    exact ⟨by rw [E.out]; rfl, ((Below.refl _ _).alloc (Nat.le_refl _) _).alloc (by simp) _⟩
  have b195 : (op == 195) = false := by simp [a195]
  by_cases a219 : op = 219
  · subst a219
    have E := hid (show rangedB 219 s m lo hi = atomIs m by unfold rangedB; rw [if_neg n1, if_pos (by decide)])
    clear n1
    go_enter Try.func41, Try.ntmps41
    go_wp2_with fail
    refine (atomic_any _ _).mono ?_
    rintro e w' ⟨rfl, rfl⟩
    go_wp2
    go_ret
    exact ⟨by rw [E.out]; rfl, ((Below.refl _ _).alloc (Nat.le_refl _) _).alloc (by simp) _⟩
  have b219 : (op == 219) = false := by simp [a219]
  by_cases a212 : op = 212
  · subst a212
    by_cases v16 : m = 16
    · have e16 : (m == 16) = true := by simp [v16]
      have E := hid (show rangedB 212 s m lo hi = true by unfold rangedB; rw [if_neg n1, if_neg (by decide), if_pos (by decide)]; simp [v16])
      clear n1 v16
      go_enter Try.func41, Try.ntmps41
      go_wp2
      go_ret
      exact ⟨by rw [E.out]; rfl, ((Below.refl _ _).alloc (Nat.le_refl _) _).alloc (by simp) _⟩
    have e16 : (m == 16) = false := by simp [v16]
    by_cases v32 : m = 32
    · have e32 : (m == 32) = true := by simp [v32]
      have E := hid (show rangedB 212 s m lo hi = true by unfold rangedB; rw [if_neg n1, if_neg (by decide), if_pos (by decide)]; simp [v32])
      clear n1 v32
      go_enter Try.func41, Try.ntmps41
      go_wp2
      go_ret
      exact ⟨by rw [E.out]; rfl, ((Below.refl _ _).alloc (Nat.le_refl _) _).alloc (by simp) _⟩
    have e32 : (m == 32) = false := by simp [v32]
    by_cases v64 : m = 64
    · have e64 : (m == 64) = true := by simp [v64]
      have E := hid (show rangedB 212 s m lo hi = true by unfold rangedB; rw [if_neg n1, if_neg (by decide), if_pos (by decide)]; simp [v64])
      clear n1 v64
      go_enter Try.func41, Try.ntmps41
      go_wp2
      go_ret
      exact ⟨by rw [E.out]; rfl, ((Below.refl _ _).alloc (Nat.le_refl _) _).alloc (by simp) _⟩
    have e64 : (m == 64) = false := by simp [v64]
    have E := hid (show rangedB 212 s m lo hi = false by unfold rangedB; rw [if_neg n1, if_neg (by decide), if_pos (by decide), e16, e32, e64]; rfl)
    clear n1 v16 v32 v64
    go_enter Try.func41, Try.ntmps41
    go_wp2
    go_ret
    exact ⟨by rw [E.out]; rfl, ((Below.refl _ _).alloc (Nat.le_refl _) _).alloc (by simp) _⟩
  have b212 : (op == 212) = false := by simp [a212]
  by_cases a220 : op = 220
  · subst a220
    by_cases v16 : m = 16
    · have e16 : (m == 16) = true := by simp [v16]
      have E := hid (show rangedB 220 s m lo hi = true by unfold rangedB; rw [if_neg n1, if_neg (by decide), if_pos (by decide)]; simp [v16])
      clear n1 v16
      go_enter Try.func41, Try.ntmps41
      go_wp2
      go_ret
      exact ⟨by rw [E.out]; rfl, ((Below.refl _ _).alloc (Nat.le_refl _) _).alloc (by simp) _⟩
    have e16 : (m == 16) = false := by simp [v16]
    by_cases v32 : m = 32
    · have e32 : (m == 32) = true := by simp [v32]
      have E := hid (show rangedB 220 s m lo hi = true by unfold rangedB; rw [if_neg n1, if_neg (by decide), if_pos (by decide)]; simp [v32])
      clear n1 v32
      go_enter Try.func41, Try.ntmps41
      go_wp2
      go_ret
      exact ⟨by rw [E.out]; rfl, ((Below.refl _ _).alloc (Nat.le_refl _) _).alloc (by simp) _⟩
    have e32 : (m == 32) = false := by simp [v32]
    by_cases v64 : m = 64
    · have e64 : (m == 64) = true := by simp [v64]
      have E := hid (show rangedB 220 s m lo hi = true by unfold rangedB; rw [if_neg n1, if_neg (by decide), if_pos (by decide)]; simp [v64])
      clear n1 v64
      go_enter Try.func41, Try.ntmps41
      go_wp2
      go_ret
      exact ⟨by rw [E.out]; rfl, ((Below.refl _ _).alloc (Nat.le_refl _) _).alloc (by simp) _⟩
    have e64 : (m == 64) = false := by simp [v64]
    have E := hid (show rangedB 220 s m lo hi = false by unfold rangedB; rw [if_neg n1, if_neg (by decide), if_pos (by decide), e16, e32, e64]; rfl)
    clear n1 v16 v32 v64
    go_enter Try.func41, Try.ntmps41
    go_wp2
    go_ret
    exact ⟨by rw [E.out]; rfl, ((Below.refl _ _).alloc (Nat.le_refl _) _).alloc (by simp) _⟩
  have b220 : (op == 220) = false := by simp [a220]
  have n2 : ¬ (op = 195 ∨ op = 219) := fun h => h.elim a195 a219
  have n3 : ¬ (op = 212 ∨ op = 220) := fun h => h.elim a212 a220
  clear a195 a219 a212 a220
  by_cases a24 : op = 24
  · subst a24
    by_cases s0 : s = 0
    · subst s0
      have E := hid (show rangedB 24 0 m lo hi = true by unfold rangedB; rw [if_neg n1, if_neg n2, if_neg n3, if_pos rfl]; simp)
      clear n1 n2 n3
      go_enter Try.func41, Try.ntmps41
      go_wp2
      go_ret
      exact ⟨by rw [E.out]; rfl, ((Below.refl _ _).alloc (Nat.le_refl _) _).alloc (by simp) _⟩
    have s1 : (s == 0) = false := by simp [s0]
    by_cases p0 : 0 ≤ m
    · have p1 : decide (0 ≤ m) = true := by simpa using p0
      by_cases p2 : m ≤ 2147483647
      · have p3 : decide (m ≤ 2147483647) = true := by simpa using p2
        have E := hid (show rangedB 24 s m lo hi = true by unfold rangedB; rw [if_neg n1, if_neg n2, if_neg n3, if_pos rfl, p1, p3]; simp)
        clear n1 n2 n3 s0
        go_enter Try.func41, Try.ntmps41
        go_wp2
        go_ret
        exact ⟨by rw [E.out]; rfl, ((Below.refl _ _).alloc (Nat.le_refl _) _).alloc (by simp) _⟩
      · have p3 : decide (m ≤ 2147483647) = false := by simpa using p2
        have E := hid (show rangedB 24 s m lo hi = false by unfold rangedB; rw [if_neg n1, if_neg n2, if_neg n3, if_pos rfl, p1, p3, s1]; rfl)
        clear n1 n2 n3 s0 p2
        go_enter Try.func41, Try.ntmps41
        go_wp2
        go_ret
        exact ⟨by rw [E.out]; rfl, ((Below.refl _ _).alloc (Nat.le_refl _) _).alloc (by simp) _⟩
    · have p1 : decide (0 ≤ m) = false := by simpa using p0
      have E := hid (show rangedB 24 s m lo hi = false by unfold rangedB; rw [if_neg n1, if_neg n2, if_neg n3, if_pos rfl, p1, s1]; rfl)
      clear n1 n2 n3 s0 p0
      go_enter Try.func41, Try.ntmps41
      go_wp2
      go_ret
      exact ⟨by rw [E.out]; rfl, ((Below.refl _ _).alloc (Nat.le_refl _) _).alloc (by simp) _⟩
  have b24 : (op != 24) = true := by simp [a24]
  have b24' : (op == 24) = false := by simp [a24]
  have E := hid (show rangedB op s m lo hi = true by unfold rangedB; rw [if_neg n1, if_neg n2, if_neg n3, if_neg a24])
  clear n1 n2 n3 a24
  go_enter Try.func41, Try.ntmps41
  go_wp2
  go_ret
  exact ⟨by rw [E.out]; rfl, ((Below.refl _ _).alloc (Nat.le_refl _) _).alloc (by simp) _⟩
end Go.Proofs.Ytccjfnkneiggcaa.Insn
