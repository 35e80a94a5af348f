/-
  Plain facts on instructions and their bytes.
-/
import Derived.Test.YtpknnmnknaaccaaRefLaid
import Derived.Test.YtpknnmnknaaccaaRefSigned
import Derived.Test.YtpknnmnknaaccaaRefCheck
namespace Go.Proofs.Ytpknnmnknaaccaa.Insn
open Go.RowKit Go.Proofs.Ytpknnmnknaaccaa.Num Go.Proofs.Ytpknnmnknaaccaa.ListB
structure In where
  op : Int
  d : Int
  s : Int
  o : Int
  m : Int
theorem In.ext' {a b : In} (h1 : a.op = b.op) (h2 : a.d = b.d) (h3 : a.s = b.s) (h4 : a.o = b.o) (h5 : a.m = b.m) : a = b := by
  cases a; cases b; simp_all
def In.same (a b : In) : Bool := a.op == b.op && a.d == b.d && a.s == b.s && a.o == b.o && a.m == b.m
theorem same_iff (a b : In) : In.same a b = true ↔ a = b := by
  unfold In.same
  simp only [Bool.and_eq_true, beq_iff_eq]
  constructor
  · rintro ⟨⟨⟨⟨h1, h2⟩, h3⟩, h4⟩, h5⟩; exact In.ext' h1 h2 h3 h4 h5
  · rintro rfl; simp
instance : DecidableEq In := fun a b => if h : In.same a b = true then .isTrue ((same_iff a b).1 h) else .isFalse fun e => h ((same_iff a b).2 e)
def In.chk (x : In) : Int := Insn.chk x.op x.d x.s x.o x.m
/-- What an instruction is that is valid. -/
theorem chk_ok {x : In} (h : x.chk = 0) : (findR x.op).is = true ∧ regB x.op x.d x.s x.m (findR x.op).wr = false ∧ fieldB x.op x.d x.s x.o x.m (findR x.op).f = false ∧ rangeB x.op x.s x.o x.m (findR x.op).lo (findR x.op).hi = false := by
  unfold In.chk Insn.chk chkR at h
  cases h1 : (findR x.op).is
  · rw [h1] at h; simp at h
  · rw [h1, if_neg (by simp)] at h
    cases h2 : regB x.op x.d x.s x.m (findR x.op).wr
    · rw [h2, if_neg (by simp)] at h
      cases h3 : fieldB x.op x.d x.s x.o x.m (findR x.op).f
      · rw [h3, if_neg (by simp)] at h
        cases h4 : rangeB x.op x.s x.o x.m (findR x.op).lo (findR x.op).hi
        · exact ⟨rfl, rfl, rfl, rfl⟩
        · rw [h4] at h; simp at h
      · rw [h3] at h; simp at h
    · rw [h2] at h; simp at h
theorem findR_op (op : Int) (h : (findR op).is = true) : 0 ≤ op ∧ op ≤ 255 := by
  unfold findR at h
  split at h
  · cases h
  · omega
theorem aluR_range (op : Int) : -2147483648 ≤ (aluR op).lo ∧ (aluR op).hi ≤ 2147483647 := by
  unfold aluR
  repeat' split
  all_goals simp
theorem jmpR_range (op : Int) : -2147483648 ≤ (jmpR op).lo ∧ (jmpR op).hi ≤ 2147483647 := by
  unfold jmpR
  repeat' split
  all_goals simp
theorem findR_range (op : Int) (hi : (findR op).is = true) (h : op ≠ 24) : -2147483648 ≤ (findR op).lo ∧ (findR op).hi ≤ 2147483647 := by
  unfold findR at *
  by_cases c0 : op < 0 ∨ 255 < op
  · rw [if_pos c0] at hi; cases hi
  rw [if_neg c0] at hi ⊢
  by_cases c1 : op % 8 = 4 ∨ op % 8 = 7
  · rw [if_pos c1]; exact aluR_range op
  rw [if_neg c1] at hi ⊢
  by_cases c2 : op % 8 = 5 ∨ op % 8 = 6
  · rw [if_pos c2]; exact jmpR_range op
  rw [if_neg c2] at hi ⊢
  by_cases c3 : op % 8 = 0
  · rw [if_pos c3] at hi; simp at hi; exact absurd hi h
  rw [if_neg c3] at hi ⊢
  repeat' split
  all_goals simp
structure Fine (x : In) : Prop where
  op : 0 ≤ x.op ∧ x.op ≤ 255
  d : 0 ≤ x.d ∧ x.d ≤ 10
  s : 0 ≤ x.s ∧ x.s ≤ 10
  o : -32768 ≤ x.o ∧ x.o ≤ 32767
  m : x.op = 24 ∨ (-2147483648 ≤ x.m ∧ x.m ≤ 2147483647)
theorem fine_of {x : In} (h : x.chk = 0) : Fine x := by
  obtain ⟨h1, h2, _, h4⟩ := chk_ok h
  unfold regB at h2
  unfold rangeB at h4
  simp only [Bool.or_eq_false_iff, decide_eq_false_iff_not] at h2 h4
  refine ⟨findR_op _ h1, by omega, by omega, by omega, ?_⟩
  by_cases e : x.op = 24
  · exact Or.inl e
  · right
    have r := findR_range x.op h1 e
    have h5 := h4.2
    simp only [Bool.not_eq_false'] at h5
    unfold rangedB at h5
    split at h5
    · cases h5
    · omega
/-! ### Bytes of an instruction -/
def wide (op : Int) : Bool := op == 24
def lenI (op : Int) : Nat := if op = 24 then 16 else 8
def encOne (x : In) : List Int :=
  [x.op, x.d + 16 * x.s] ++ laidL (unsig x.o) 2 ++ (if x.op = 24 then laidL (unsig x.m) 4 ++ [0, 0, 0, 0] ++ (laidL (unsig x.m) 8).drop 4 else laidL (unsig x.m) 4)
def enc (l : List In) : List Int := l.flatMap encOne
theorem laidL_2 (u : Nat) : laidL u 2 = [((u % 256 : Nat) : Int), ((u / 256 % 256 : Nat) : Int)] := by
  unfold laidL; simp [List.range_succ]
theorem laidL_4 (u : Nat) : laidL u 4 = [((u % 256 : Nat) : Int), ((u / 256 % 256 : Nat) : Int), ((u / 65536 % 256 : Nat) : Int), ((u / 16777216 % 256 : Nat) : Int)] := by
  unfold laidL; simp [List.range_succ]
theorem laidL_8 (u : Nat) : laidL u 8 = laidL u 4 ++ [((u / 4294967296 % 256 : Nat) : Int), ((u / 1099511627776 % 256 : Nat) : Int), ((u / 281474976710656 % 256 : Nat) : Int), ((u / 72057594037927936 % 256 : Nat) : Int)] := by
  unfold laidL; simp [List.range_succ]
theorem laidL_8d (u : Nat) : (laidL u 8).drop 4 = [((u / 4294967296 % 256 : Nat) : Int), ((u / 1099511627776 % 256 : Nat) : Int), ((u / 281474976710656 % 256 : Nat) : Int), ((u / 72057594037927936 % 256 : Nat) : Int)] := by
  rw [laidL_8, laidL_4]; rfl
theorem laidL_length (u n : Nat) : (laidL u n).length = n := by unfold laidL; simp
theorem encOne_length (x : In) : (encOne x).length = lenI x.op := by
  unfold encOne lenI
  split <;> simp [laidL_length]
theorem enc_nil : enc [] = [] := rfl
theorem enc_append (a b : List In) : enc (a ++ b) = enc a ++ enc b := by unfold enc; simp
theorem enc_cons (x : In) (l : List In) : enc (x :: l) = encOne x ++ enc l := by unfold enc; simp
/-- What bytes begin with, as an instruction; nothing is asked of them. -/
def decIn (zs : List Int) : In :=
  ⟨zs.getD 0 0, zs.getD 1 0 % 16, zs.getD 1 0 / 16, signR (numAt zs 2 2) 2,
    if zs.getD 0 0 = 24 then signR (numAt zs 4 4 + numAt zs 12 4 * 4294967296) 8 else signR (numAt zs 4 4) 4⟩
theorem numAt_2 (zs : List Int) (k : Nat) : numAt zs k 2 = (zs.getD k 0).toNat + (zs.getD (k + 1) 0).toNat * 256 := by
  unfold numAt; simp [leV]
theorem numAt_4 (zs : List Int) (k : Nat) : numAt zs k 4 = (zs.getD k 0).toNat + (zs.getD (k + 1) 0).toNat * 256 + (zs.getD (k + 2) 0).toNat * 65536 + (zs.getD (k + 3) 0).toNat * 16777216 := by
  unfold numAt; simp [leV]
theorem signR_2 (u : Nat) : signR u 2 = if u < 32768 then (u : Int) else (u : Int) - 65536 := rfl
theorem signR_4 (u : Nat) : signR u 4 = if u < 2147483648 then (u : Int) else (u : Int) - 4294967296 := rfl
theorem signR_8 (u : Nat) : signR u 8 = if u < 9223372036854775808 then (u : Int) else (u : Int) - 18446744073709551616 := rfl
/-- There, and back. -/
theorem dec_enc (x : In) (hf : Fine x) (h64 : -9223372036854775808 ≤ x.m ∧ x.m ≤ 9223372036854775807) (r : List Int) : decIn (encOne x ++ r) = x := by
  obtain ⟨op, d, s, o, m⟩ := x
  have h1 := hf.op; have h2 := hf.d; have h3 := hf.s; have h4 := hf.o; have h5 := hf.m
  simp only at h1 h2 h3 h4 h5 h64
  have uo := unsig_of o
  have um := unsig_of m
  unfold decIn encOne
  by_cases hw : op = 24
  · subst hw
    simp only [if_true, laidL_2, laidL_4, laidL_8d, numAt_2, numAt_4, signR_2, signR_8, List.cons_append, List.nil_append]
    generalize unsig o = u at uo
    generalize unsig m = v at um
    simp only [List.getD_cons_zero, List.getD_cons_succ, Int.toNat_natCast]
    apply In.ext' <;> simp only
    · omega
    · omega
    · split <;> omega
    · rw [if_pos True.intro]
      split <;> omega
  · have hm : -2147483648 ≤ m ∧ m ≤ 2147483647 := h5.resolve_left hw
    simp only [if_neg hw, laidL_2, laidL_4, numAt_2, numAt_4, signR_2, signR_4, List.cons_append, List.nil_append]
    generalize unsig o = u at uo
    generalize unsig m = v at um
    simp only [List.getD_cons_zero, List.getD_cons_succ, Int.toNat_natCast]
    apply In.ext' <;> simp only
    · omega
    · omega
    · split <;> omega
    · rw [if_neg hw]; split <;> omega
end Go.Proofs.Ytpknnmnknaaccaa.Insn
