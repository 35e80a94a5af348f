/-
  Contracts of flow's small functions, and of the document's: a jump, a size, a place.
-/
import Derived.Test.YtpknnmnknaaccaaFlP
import Derived.Test.YtpknnmnknaaccaaFlL
import Derived.Test.YtpknnmnknaaccaaDevSmall
namespace Go.Proofs.Ytpknnmnknaaccaa.Flow
open Go.RowKit Go.Proofs.Ytpknnmnknaaccaa.Num Go.Proofs.Ytpknnmnknaaccaa.ListB Go.Proofs.Ytpknnmnknaaccaa.Insn
/-- An instruction as a value. -/
abbrev In.V (x : In) : Value := insnV x.op x.d x.s x.o x.m
theorem size_any (x : In) (w : World) :
    Calls Try.prog 39 #[insnV x.op x.d x.s x.o x.m] w fun e w' => e = .returned (.int .i64 (sz x : Nat)) ∧ Below w.heap.size w w' := by
  obtain ⟨op, d, s, o, m⟩ := x
  unfold insnV sz
  by_cases h : op = 24
  · subst h
    go_enter Try.func39, Try.ntmps39
    go_wp2
    go_ret
    exact ⟨rfl, (Below.refl _ _).alloc (Nat.le_refl _) _⟩
  · have hb : (op == 24) = false := by simpa using h
    simp only [h, if_false]
    clear h
    go_enter Try.func39, Try.ntmps39
    go_wp2
    go_ret
    exact ⟨rfl, (Below.refl _ _).alloc (Nat.le_refl _) _⟩
theorem jumps_any (x : In) (w : World) :
    Calls Try.prog 17 #[insnV x.op x.d x.s x.o x.m] w fun e w' => e = .returned (.bool (jmpB x.op)) ∧ Below w.heap.size w w' := by
  obtain ⟨op, d, s, o, m⟩ := x
  unfold insnV
  simp only
  have key : ∀ b, jmpB op = b → Calls Try.prog 17 #[.agg #[.int .i64 op, .int .i64 d, .int .i64 s, .int .i64 o, .int .i64 m]] w fun e w' => e = .returned (.bool b) ∧ Below w.heap.size w w' := by
    intro b hb
    by_cases h5 : (op % 8 == 5) = true
    · have hb' : ((op != 133) && (op != 149)) = b := by rw [← hb]; unfold jmpB; rw [h5]; rfl
      clear hb
      cases h1 : (op != 133)
      · rw [h1] at hb'
        obtain rfl : false = b := hb'
        go_enter Try.func17, Try.ntmps17
        go_wp2_with (go_at_call 42; refine (dclass_any _ _).mono ?_; rintro e w' ⟨rfl, rfl⟩)
        go_ret
        exact ⟨rfl, (Below.refl _ _).alloc (Nat.le_refl _) _⟩
      · rw [h1] at hb'
        cases h2 : (op != 149)
        all_goals
          rw [h2] at hb'
          first | (obtain rfl : false = b := hb') | (obtain rfl : true = b := hb')
          go_enter Try.func17, Try.ntmps17
          go_wp2_with (go_at_call 42; refine (dclass_any _ _).mono ?_; rintro e w' ⟨rfl, rfl⟩)
          go_ret
          exact ⟨rfl, (Below.refl _ _).alloc (Nat.le_refl _) _⟩
    · have h5' : (op % 8 == 5) = false := by simpa using h5
      clear h5
      by_cases h6 : (op % 8 == 6) = true
      · have hb' : ((op != 133) && (op != 149)) = b := by rw [← hb]; unfold jmpB; rw [h5', h6]; rfl
        clear hb
        cases h1 : (op != 133)
        · rw [h1] at hb'
          obtain rfl : false = b := hb'
          go_enter Try.func17, Try.ntmps17
          go_wp2_with (go_at_call 42; refine (dclass_any _ _).mono ?_; rintro e w' ⟨rfl, rfl⟩)
          go_ret
          exact ⟨rfl, (Below.refl _ _).alloc (Nat.le_refl _) _⟩
        · rw [h1] at hb'
          cases h2 : (op != 149)
          all_goals
            rw [h2] at hb'
            first | (obtain rfl : false = b := hb') | (obtain rfl : true = b := hb')
            go_enter Try.func17, Try.ntmps17
            go_wp2_with (go_at_call 42; refine (dclass_any _ _).mono ?_; rintro e w' ⟨rfl, rfl⟩)
            go_ret
            exact ⟨rfl, (Below.refl _ _).alloc (Nat.le_refl _) _⟩
      · have h6' : (op % 8 == 6) = false := by simpa using h6
        have hb' : false = b := by rw [← hb]; unfold jmpB; rw [h5', h6']; rfl
        clear hb h6
        subst hb'
        go_enter Try.func17, Try.ntmps17
        go_wp2_with (go_at_call 42; refine (dclass_any _ _).mono ?_; rintro e w' ⟨rfl, rfl⟩)
        go_ret
        exact ⟨rfl, (Below.refl _ _).alloc (Nat.le_refl _) _⟩
  exact key _ rfl
end Go.Proofs.Ytpknnmnknaaccaa.Flow
