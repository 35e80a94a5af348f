/-
  Plain facts for TnumKnown: 'exact' as a plain function of two tnums, and what the kernel finds of it.
-/
import Derived.Test.YtpbhfpogbndljaaDoorRtT
namespace Go.Proofs.YtpbhfpogbndljaaDoor.Rt
open Go.RowKit Go.Proofs.YtpbhfpogbndljaaDoor.Num Go.Proofs.YtpbhfpogbndljaaDoor.Up Go.Proofs.YtpbhfpogbndljaaDoor.Tn
/-- Five words. -/
structure W5 where
  c0 : BitVec 64
  c1 : BitVec 64
  c2 : BitVec 64
  c3 : BitVec 64
  c4 : BitVec 64
/-- The five answers for two numbers. -/
def ex5 (x y : BitVec 64) : W5 := ⟨x + y, x - y, x &&& y, x ||| y, x ^^^ y⟩
/-- What the rounds keep: the first answers, where others differ, how many there were. -/
structure Ex where
  n : Nat
  f : W5
  d : W5
def ex0 : Ex := ⟨0, ⟨0#64, 0#64, 0#64, 0#64, 0#64⟩, ⟨0#64, 0#64, 0#64, 0#64, 0#64⟩⟩
def exF (s : Ex) (l : W5) : W5 := bif s.n == 0 then l else s.f
def exD (d l f : W5) : W5 := ⟨d.c0 ||| (l.c0 ^^^ f.c0), d.c1 ||| (l.c1 ^^^ f.c1), d.c2 ||| (l.c2 ^^^ f.c2), d.c3 ||| (l.c3 ^^^ f.c3), d.c4 ||| (l.c4 ^^^ f.c4)⟩
def exIn (a b : P) (x y : BitVec 64) : Bool := bif !(tnIn a x) then false else tnIn b y
def exStep (a b : P) (x y : BitVec 64) (s : Ex) : Ex := bif exIn a b x y then ⟨s.n + 1, exF s (ex5 x y), exD s.d (ex5 x y) (exF s (ex5 x y))⟩ else s
/-- The state after j rounds of the inner loop at x, from s. -/
def exRow (a b : P) (x : BitVec 64) (s : Ex) : Nat → Ex
  | 0 => s
  | j + 1 => exStep a b x (BitVec.ofNat 64 j) (exRow a b x s j)
/-- The state after i rounds of the outer loop. -/
def exAll (a b : P) : Nat → Ex
  | 0 => ex0
  | i + 1 => exRow a b (BitVec.ofNat 64 i) (exAll a b i) 8
def exBad (g : P) (f d : BitVec 64) : Bool := bif g.hi != d then true else g.lo != f &&& ~~~d
/-- exact's answer. -/
def exactB (a b : P) : Bool :=
  bif exBad (tnAdd a b) (exAll a b 8).f.c0 (exAll a b 8).d.c0 then false else bif exBad (tnSub a b) (exAll a b 8).f.c1 (exAll a b 8).d.c1 then false else
    bif exBad (tnAnd a b) (exAll a b 8).f.c2 (exAll a b 8).d.c2 then false else bif exBad (tnOr a b) (exAll a b 8).f.c3 (exAll a b 8).d.c3 then false else
    bif exBad (tnXor a b) (exAll a b 8).f.c4 (exAll a b 8).d.c4 then false else decide ((exAll a b 8).n > 0)
/-- The two tnums of round k. -/
def kA (k : Nat) : P := P.mk (BitVec.ofNat 64 (k % 8)) (BitVec.ofNat 64 (k / 8 % 8))
def kB (k : Nat) : P := P.mk (BitVec.ofNat 64 (k / 64 % 8)) (BitVec.ofNat 64 (k / 512))
structure P5 where
  g0 : P
  g1 : P
  g2 : P
  g3 : P
  g4 : P
/-- A cell of five, k of which are new. -/
def exTo (k j : Nat) (a b : BitVec 64) : BitVec 64 := bif Nat.blt j k then a else b
theorem exF_t {s : Ex} {l : W5} (h : decide (s.n = 0) = true) : exF s l = l := by unfold exF; rw [of_decide_eq_true h]; rfl
theorem exF_f {s : Ex} {l : W5} (h : decide (s.n = 0) = false) : exF s l = s.f := by unfold exF; rw [beq_eq_false_iff_ne.2 (of_decide_eq_false h)]; rfl
theorem exStep_n (a b : P) (x y : BitVec 64) (s : Ex) : (exStep a b x y s).n ≤ s.n + 1 := by
  unfold exStep
  cases exIn a b x y
  · exact Nat.le_succ _
  · exact Nat.le_refl _
theorem exRow_le (a b : P) (x : BitVec 64) (s : Ex) : ∀ j, (exRow a b x s j).n ≤ s.n + j
  | 0 => Nat.le_refl _
  | j + 1 => Nat.le_trans (exStep_n a b x _ _) (Nat.succ_le_succ (exRow_le a b x s j))
theorem exAll_le (a b : P) : ∀ i, (exAll a b i).n ≤ 8 * i
  | 0 => Nat.le_refl _
  | i + 1 => Nat.le_trans (exRow_le a b _ _ 8) (by have := exAll_le a b i; omega)
theorem exRow_n {a b : P} {x : BitVec 64} {i j : Nat} (hi : i < 8) (hj : j < 8) : (exRow a b x (exAll a b i) j).n < 64 := by
  have h1 := exRow_le a b x (exAll a b i) j
  have h2 := exAll_le a b i
  omega
theorem exD_same (d l : W5) : exD d l l = d := by
  cases d
  simp [exD]
theorem xorSelfT (x : BitVec 64) : bits .xor .u64 (tn x) (tn x) = tn 0#64 := by rw [xorUT, BitVec.xor_self]
theorem orZeroT (x : BitVec 64) : bits .or .u64 (tn x) (tn 0#64) = tn x := by rw [orUT, BitVec.or_zero]
theorem xn_next (k : Nat) : BitVec.ofNat 64 k + 1#64 = BitVec.ofNat 64 (k + 1) := by rw [BitVec.ofNat_add]
theorem xn_lt {k : Nat} (h : k < 8) : ltU (BitVec.ofNat 64 k) 8#64 = true := by
  unfold ltU tn; rw [BitVec.toNat_ofNat]; exact decide_eq_true (by simp; omega)
theorem xn_end {k : Nat} (h : k = 8) : ltU (BitVec.ofNat 64 k) 8#64 = false := by subst h; decide
theorem exIn_no {a b : P} {x y : BitVec 64} (h : (bif (!(tnIn a x)) then true else (!(tnIn b y))) = true) : exIn a b x y = false := by
  unfold exIn; cases h1 : tnIn a x <;> cases h2 : tnIn b y <;> simp_all
theorem exIn_yes {a b : P} {x y : BitVec 64} (h : (bif (!(tnIn a x)) then true else (!(tnIn b y))) = false) : exIn a b x y = true := by
  unfold exIn; cases h1 : tnIn a x <;> cases h2 : tnIn b y <;> simp_all
theorem exRow_no {a b : P} {x : BitVec 64} {s : Ex} {j : Nat} (h : exIn a b x (BitVec.ofNat 64 j) = false) : exRow a b x s (j + 1) = exRow a b x s j := cond_f h
theorem exRow_yes {a b : P} {x : BitVec 64} {s : Ex} {j : Nat} (h : exIn a b x (BitVec.ofNat 64 j) = true) : exRow a b x s (j + 1) = ⟨(exRow a b x s j).n + 1, exF (exRow a b x s j) (ex5 x (BitVec.ofNat 64 j)), exD (exRow a b x s j).d (ex5 x (BitVec.ofNat 64 j)) (exF (exRow a b x s j) (ex5 x (BitVec.ofNat 64 j)))⟩ := cond_t h
end Go.Proofs.YtpbhfpogbndljaaDoor.Rt
