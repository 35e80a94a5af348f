/-
  Sums and differences of tnums, cell by cell with all the carries that may be: they are the program's. Plain facts: no program is looked at here.
-/
import Derived.Test.YtpbhfpogbndljaaDoorRtJ
namespace Go.Proofs.YtpbhfpogbndljaaDoor.Rt
open Go.RowKit Go.Proofs.YtpbhfpogbndljaaDoor.Num Go.Proofs.YtpbhfpogbndljaaDoor.Up Go.Proofs.YtpbhfpogbndljaaDoor.Tn
def allow (z o p : Bool) : Bool := bif p then o else z
def turn8 (f : Bool → Bool → Bool → Bool) (xz xo yz yo c0 c1 p q c : Bool) : Bool := allow xz xo p && allow yz yo q && allow c0 c1 c && f p q c
/-- Do bits that may be (of both numbers and the carry) bring 'f' about? -/
def some8 (f : Bool → Bool → Bool → Bool) (xz xo yz yo c0 c1 : Bool) : Bool :=
  turn8 f xz xo yz yo c0 c1 false false false || turn8 f xz xo yz yo c0 c1 true false false || turn8 f xz xo yz yo c0 c1 false true false || turn8 f xz xo yz yo c0 c1 true true false ||
  turn8 f xz xo yz yo c0 c1 false false true || turn8 f xz xo yz yo c0 c1 true false true || turn8 f xz xo yz yo c0 c1 false true true || turn8 f xz xo yz yo c0 c1 true true true
def odd3 (p q c : Bool) : Bool := p ^^ (q ^^ c)
def maj3 (p q c : Bool) : Bool := (p && q) || (p && c) || (q && c)
def bor3 (p q c : Bool) : Bool := (!p && (q || c)) || (q && c)
def cars (g : Bool → Bool → Bool → Bool) (x y : BB) : Nat → Bool × Bool
  | 0 => (true, false)
  | k + 1 => (some8 (fun p q c => !g p q c) (x.Z k) (x.O k) (y.Z k) (y.O k) (cars g x y k).1 (cars g x y k).2,
      some8 g (x.Z k) (x.O k) (y.Z k) (y.O k) (cars g x y k).1 (cars g x y k).2)
def sumB (g : Bool → Bool → Bool → Bool) (x y : BB) : BB :=
  ⟨fun i => some8 (fun p q c => !odd3 p q c) (x.Z i) (x.O i) (y.Z i) (y.O i) (cars g x y i).1 (cars g x y i).2,
   fun i => some8 odd3 (x.Z i) (x.O i) (y.Z i) (y.O i) (cars g x y i).1 (cars g x y i).2⟩
theorem lo_up (a : T) (i : Nat) (h : i < 64) : a.lo.getLsbD i = true → a.hi.getLsbD i = true := by
  rw [lo_bit a i h, hi_bit]; cases a.v.getLsbD i <;> simp
theorem carry_up (a b : T) (i : Nat) : i ≤ 64 → BitVec.carry i a.lo b.lo false = true → BitVec.carry i a.hi b.hi false = true := by
  induction i with
  | zero => intro _; rw [BitVec.carry_zero, BitVec.carry_zero]; exact id
  | succ i ih =>
    intro h
    have ih := ih (by omega)
    have h1 := lo_up a i (by omega); have h2 := lo_up b i (by omega)
    rw [BitVec.carry_succ, BitVec.carry_succ]
    revert h1 h2 ih
    generalize a.lo.getLsbD i = p; generalize a.hi.getLsbD i = p'; generalize b.lo.getLsbD i = q; generalize b.hi.getLsbD i = q'
    generalize BitVec.carry i a.lo b.lo false = c; generalize BitVec.carry i a.hi b.hi false = c'
    revert p p' q q' c c'; decide
/-- What is borrowed at bit i of x - y. -/
def bw (x y : BitVec 64) : Nat → Bool
  | 0 => false
  | i + 1 => bor3 (x.getLsbD i) (y.getLsbD i) (bw x y i)
theorem bw_succ (x y : BitVec 64) (i : Nat) : bw x y (i + 1) = bor3 (x.getLsbD i) (y.getLsbD i) (bw x y i) := rfl
theorem bw_carry (x y : BitVec 64) (i : Nat) : i ≤ 64 → BitVec.carry i x (~~~y) true = !bw x y i := by
  induction i with
  | zero => intro _; rw [BitVec.carry_zero]; rfl
  | succ i ih =>
    intro h
    rw [BitVec.carry_succ, ih (by omega), BitVec.getLsbD_not, bw_succ]
    simp only [show i < 64 by omega, decide_true, Bool.true_and]
    generalize x.getLsbD i = p; generalize y.getLsbD i = q; generalize bw x y i = c
    revert p q c; decide
theorem sub_bit (x y : BitVec 64) (i : Nat) (h : i < 64) : (x - y).getLsbD i = odd3 (x.getLsbD i) (y.getLsbD i) (bw x y i) := by
  have e : x - y = x + ~~~y + BitVec.setWidth 64 (BitVec.ofBool true) := by
    rw [BitVec.sub_eq_add_neg, BitVec.neg_eq_not_add, ← BitVec.add_assoc]; rfl
  rw [e, BitVec.getLsbD_add_add_bool h, bw_carry x y i (by omega), BitVec.getLsbD_not]
  simp only [h, decide_true, Bool.true_and]
  generalize x.getLsbD i = p; generalize y.getLsbD i = q; generalize bw x y i = c
  revert p q c; decide
theorem bw_up (a b : T) (i : Nat) : i ≤ 64 → bw a.hi b.lo i = true → bw a.lo b.hi i = true := by
  induction i with
  | zero => intro _; exact id
  | succ i ih =>
    intro h
    have ih := ih (by omega)
    have h1 := lo_up a i (by omega); have h2 := lo_up b i (by omega)
    unfold bw
    revert h1 h2 ih
    generalize a.lo.getLsbD i = p; generalize a.hi.getLsbD i = p'; generalize b.lo.getLsbD i = q; generalize b.hi.getLsbD i = q'
    generalize bw a.hi b.lo i = c; generalize bw a.lo b.hi i = c'
    revert p p' q q' c c'; decide
theorem cars_add (a b : T) (i : Nat) : i ≤ 64 → cars maj3 (ofB (toP a)) (ofB (toP b)) i = (!BitVec.carry i a.lo b.lo false, BitVec.carry i a.hi b.hi false) := by
  induction i with
  | zero => intro _; rw [BitVec.carry_zero, BitVec.carry_zero]; rfl
  | succ i ih =>
    intro h
    have m := carry_up a b i (by omega)
    unfold cars
    rw [ih (by omega), BitVec.carry_succ, BitVec.carry_succ, lo_bit a i (by omega), lo_bit b i (by omega), hi_bit, hi_bit]
    simp only [ofB, toP]
    revert m
    generalize a.v.getLsbD i = p; generalize a.m.getLsbD i = p'; generalize b.v.getLsbD i = q; generalize b.m.getLsbD i = q'
    generalize BitVec.carry i a.lo b.lo false = c; generalize BitVec.carry i a.hi b.hi false = c'
    revert p p' q q' c c'; decide
theorem cars_sub (a b : T) (i : Nat) : i ≤ 64 → cars bor3 (ofB (toP a)) (ofB (toP b)) i = (!bw a.hi b.lo i, bw a.lo b.hi i) := by
  induction i with
  | zero => intro _; rfl
  | succ i ih =>
    intro h
    have m := bw_up a b i (by omega)
    unfold cars bw
    rw [ih (by omega), lo_bit a i (by omega), lo_bit b i (by omega), hi_bit, hi_bit]
    simp only [ofB, toP]
    revert m
    generalize a.v.getLsbD i = p; generalize a.m.getLsbD i = p'; generalize b.v.getLsbD i = q; generalize b.m.getLsbD i = q'
    generalize bw a.hi b.lo i = c; generalize bw a.lo b.hi i = c'
    revert p p' q q' c c'; decide
theorem add_eq (a b : T) : tnumB (sumB maj3 (ofB (toP a)) (ofB (toP b))) = toP (addR a b) := by
  refine P_ext (fun i h => ?_) (fun i h => ?_)
  · rw [tnumB_lo _ i h]
    unfold sumB addR exceptR toP
    simp only
    have e := cars_add a b i (by omega)
    unfold toP at e
    rw [e, BitVec.getLsbD_and, BitVec.getLsbD_not, BitVec.getLsbD_or, BitVec.getLsbD_or, BitVec.getLsbD_xor, BitVec.getLsbD_add h, BitVec.getLsbD_add h, lo_bit a i h, lo_bit b i h, hi_bit, hi_bit]
    have m := carry_up a b i (by omega)
    simp only [ofB, h, decide_true, Bool.true_and]
    revert m
    generalize a.v.getLsbD i = p; generalize a.m.getLsbD i = p'; generalize b.v.getLsbD i = q; generalize b.m.getLsbD i = q'
    generalize BitVec.carry i a.lo b.lo false = c; generalize BitVec.carry i a.hi b.hi false = c'
    revert p p' q q' c c'; decide
  · rw [tnumB_hi _ i h]
    unfold sumB addR exceptR toP
    simp only
    have e := cars_add a b i (by omega)
    unfold toP at e
    rw [e, BitVec.getLsbD_or, BitVec.getLsbD_or, BitVec.getLsbD_xor, BitVec.getLsbD_add h, BitVec.getLsbD_add h, lo_bit a i h, lo_bit b i h, hi_bit, hi_bit]
    have m := carry_up a b i (by omega)
    simp only [ofB]
    revert m
    generalize a.v.getLsbD i = p; generalize a.m.getLsbD i = p'; generalize b.v.getLsbD i = q; generalize b.m.getLsbD i = q'
    generalize BitVec.carry i a.lo b.lo false = c; generalize BitVec.carry i a.hi b.hi false = c'
    revert p p' q q' c c'; decide
theorem sub_eq (a b : T) : tnumB (sumB bor3 (ofB (toP a)) (ofB (toP b))) = toP (subR a b) := by
  refine P_ext (fun i h => ?_) (fun i h => ?_)
  · rw [tnumB_lo _ i h]
    unfold sumB subR exceptR toP
    simp only
    have e := cars_sub a b i (by omega)
    unfold toP at e
    rw [e, BitVec.getLsbD_and, BitVec.getLsbD_not, BitVec.getLsbD_or, BitVec.getLsbD_or, BitVec.getLsbD_xor, sub_bit _ _ i h, sub_bit _ _ i h, lo_bit a i h, lo_bit b i h, hi_bit, hi_bit]
    have m := bw_up a b i (by omega)
    simp only [ofB, h, decide_true, Bool.true_and]
    revert m
    generalize a.v.getLsbD i = p; generalize a.m.getLsbD i = p'; generalize b.v.getLsbD i = q; generalize b.m.getLsbD i = q'
    generalize bw a.hi b.lo i = c; generalize bw a.lo b.hi i = c'
    revert p p' q q' c c'; decide
  · rw [tnumB_hi _ i h]
    unfold sumB subR exceptR toP
    simp only
    have e := cars_sub a b i (by omega)
    unfold toP at e
    rw [e, BitVec.getLsbD_or, BitVec.getLsbD_or, BitVec.getLsbD_xor, sub_bit _ _ i h, sub_bit _ _ i h, lo_bit a i h, lo_bit b i h, hi_bit, hi_bit]
    have m := bw_up a b i (by omega)
    simp only [ofB]
    revert m
    generalize a.v.getLsbD i = p; generalize a.m.getLsbD i = p'; generalize b.v.getLsbD i = q; generalize b.m.getLsbD i = q'
    generalize bw a.hi b.lo i = c; generalize bw a.lo b.hi i = c'
    revert p p' q q' c c'; decide
end Go.Proofs.YtpbhfpogbndljaaDoor.Rt
