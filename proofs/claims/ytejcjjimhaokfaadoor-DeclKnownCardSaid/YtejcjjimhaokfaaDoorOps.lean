/-
  What the operations on numbers make, said of bit vectors: for walks that are written by program (tools/sym.py).
-/
import Derived.Test.YtejcjjimhaokfaaDoorNum
import Derived.Test.YtejcjjimhaokfaaDoorSt
import Derived.WalkKit
import Derived.WalkSpells
import Derived.WalkLawsBesides
import Derived.ProofKit
import Derived.Below
namespace Go.Proofs.YtejcjjimhaokfaaDoor.Up
open Go.RowKit Go.Proofs.YtejcjjimhaokfaaDoor.Num
/-- Two numbers of 64 bits. -/
structure P where
  lo : BitVec 64
  hi : BitVec 64
def ti (x : BitVec 64) : Int := x.toInt
def ltU (x y : BitVec 64) : Bool := decide (tn x < tn y)
def leU (x y : BitVec 64) : Bool := decide (tn x ≤ tn y)
def gtU (x y : BitVec 64) : Bool := decide (tn x > tn y)
def geU (x y : BitVec 64) : Bool := decide (tn x ≥ tn y)
def ltW (x y : BitVec 32) : Bool := decide (tn x < tn y)
def leW (x y : BitVec 32) : Bool := decide (tn x ≤ tn y)
def gtW (x y : BitVec 32) : Bool := decide (tn x > tn y)
def geW (x y : BitVec 32) : Bool := decide (tn x ≥ tn y)
def ltI (x y : BitVec 64) : Bool := decide (ti x < ti y)
def leI (x y : BitVec 64) : Bool := decide (ti x ≤ ti y)
def gtI (x y : BitVec 64) : Bool := decide (ti x > ti y)
def geI (x y : BitVec 64) : Bool := decide (ti x ≥ ti y)
def minU (x y : BitVec 64) : BitVec 64 := if tn y < tn x then y else x
def maxU (x y : BitVec 64) : BitVec 64 := if tn x < tn y then y else x
def minI (x y : BitVec 64) : BitVec 64 := if ti y < ti x then y else x
def maxI (x y : BitVec 64) : BitVec 64 := if ti x < ti y then y else x
def eqP (x y : P) : Bool := (x.lo == y.lo) && (x.hi == y.hi)
theorem cond_t {α : Type} {c : Bool} {a b : α} (h : c = true) : cond c a b = a := by rw [h]; rfl
theorem cond_f {α : Type} {c : Bool} {a b : α} (h : c = false) : cond c a b = b := by rw [h]; rfl
theorem ltUT (x y : BitVec 64) : decide (tn x < tn y) = ltU x y := rfl
theorem leUT (x y : BitVec 64) : decide (tn x ≤ tn y) = leU x y := rfl
theorem gtUT (x y : BitVec 64) : decide (tn y < tn x) = gtU x y := rfl
theorem geUT (x y : BitVec 64) : decide (tn y ≤ tn x) = geU x y := rfl
theorem ltWT (x y : BitVec 32) : decide (tn x < tn y) = ltW x y := rfl
theorem leWT (x y : BitVec 32) : decide (tn x ≤ tn y) = leW x y := rfl
theorem gtWT (x y : BitVec 32) : decide (tn y < tn x) = gtW x y := rfl
theorem geWT (x y : BitVec 32) : decide (tn y ≤ tn x) = geW x y := rfl
theorem ltIT (x y : BitVec 64) : decide (ti x < ti y) = ltI x y := rfl
theorem leIT (x y : BitVec 64) : decide (ti x ≤ ti y) = leI x y := rfl
theorem gtIT (x y : BitVec 64) : decide (ti y < ti x) = gtI x y := rfl
theorem geIT (x y : BitVec 64) : decide (ti y ≤ ti x) = geI x y := rfl
theorem eqUT (x y : BitVec 64) : (tn x == tn y) = (x == y) := by
  rw [Bool.eq_iff_iff]
  simp only [beq_iff_eq]
  exact ⟨fun h => tn_inj h, fun h => by rw [h]⟩
theorem neUT (x y : BitVec 64) : (tn x != tn y) = (x != y) := by unfold bne; rw [eqUT]
theorem eqWT (x y : BitVec 32) : (tn x == tn y) = (x == y) := by
  rw [Bool.eq_iff_iff]
  simp only [beq_iff_eq]
  exact ⟨fun h => tn_inj h, fun h => by rw [h]⟩
theorem neWT (x y : BitVec 32) : (tn x != tn y) = (x != y) := by unfold bne; rw [eqWT]
theorem eqIT (x y : BitVec 64) : (ti x == ti y) = (x == y) := by
  rw [Bool.eq_iff_iff]
  simp only [beq_iff_eq]
  exact ⟨fun h => BitVec.eq_of_toInt_eq (by unfold ti at h; exact h), fun h => by rw [h]⟩
theorem neIT (x y : BitVec 64) : (ti x != ti y) = (x != y) := by unfold bne; rw [eqIT]
theorem ne0U {x : BitVec 64} (h : (x == 0#64) = false) : ¬ tn x = 0 := by
  rw [← eqUT] at h
  intro e
  rw [e] at h
  cases h
theorem ne0W {x : BitVec 32} (h : (x == 0#32) = false) : ¬ tn x = 0 := by
  rw [← eqWT] at h
  intro e
  rw [e] at h
  cases h
theorem ne0I {x : BitVec 64} (h : (x == 0#64) = false) : ¬ ti x = 0 := by
  rw [← eqIT] at h
  intro e
  rw [e] at h
  cases h
theorem minUT (x y : BitVec 64) : (if tn y < tn x then tn y else tn x) = tn (minU x y) := by unfold minU; split <;> rfl
theorem maxUT (x y : BitVec 64) : (if tn x < tn y then tn y else tn x) = tn (maxU x y) := by unfold maxU; split <;> rfl
theorem minIT (x y : BitVec 64) : (if ti y < ti x then ti y else ti x) = ti (minI x y) := by unfold minI; split <;> rfl
theorem maxIT (x y : BitVec 64) : (if ti x < ti y then ti y else ti x) = ti (maxI x y) := by unfold maxI; split <;> rfl
theorem neB (a b : Bool) : (a == b) = !(a != b) := by cases a <;> cases b <;> rfl
def eqS (x y : P) : Bool := (x.lo == y.lo) && (x.hi == y.hi)
theorem eqPT {α : Type} (X : Bool → α) (a b c d : BitVec 64) : (if tn a = tn c then (if tn b = tn d then X true else X false) else X false) = X (eqP ⟨a, b⟩ ⟨c, d⟩) := by
  unfold eqP
  simp only
  rw [← eqUT, ← eqUT, show (tn a == tn c) = decide (tn a = tn c) from rfl, show (tn b == tn d) = decide (tn b = tn d) from rfl]
  by_cases h : tn a = tn c <;> by_cases k : tn b = tn d <;> simp [h, k]
theorem eqST {α : Type} (X : Bool → α) (a b c d : BitVec 64) : (if ti a = ti c then (if ti b = ti d then X true else X false) else X false) = X (eqS ⟨a, b⟩ ⟨c, d⟩) := by
  unfold eqS
  simp only
  rw [← eqIT, ← eqIT, show (ti a == ti c) = decide (ti a = ti c) from rfl, show (ti b == ti d) = decide (ti b = ti d) from rfl]
  by_cases h : ti a = ti c <;> by_cases k : ti b = ti d <;> simp [h, k]
theorem addUT (x y : BitVec 64) : IntKind.u64.wrap (tn x + tn y) = tn (x + y) := by rw [add64, b64_tn, b64_tn]
theorem subUT (x y : BitVec 64) : IntKind.u64.wrap (tn x - tn y) = tn (x - y) := by rw [sub64, b64_tn, b64_tn]
theorem mulUT (x y : BitVec 64) : IntKind.u64.wrap (tn x * tn y) = tn (x * y) := by rw [mul64, b64_tn, b64_tn]
theorem orUT (x y : BitVec 64) : bits .or .u64 (tn x) (tn y) = tn (x ||| y) := by rw [or64, b64_tn, b64_tn]
theorem andUT (x y : BitVec 64) : bits .and .u64 (tn x) (tn y) = tn (x &&& y) := by rw [and64, b64_tn, b64_tn]
theorem xorUT (x y : BitVec 64) : bits .xor .u64 (tn x) (tn y) = tn (x ^^^ y) := by rw [xor64, b64_tn, b64_tn]
theorem andNotUT (x y : BitVec 64) : bits .andNot .u64 (tn x) (tn y) = tn (x &&& ~~~y) := by
  rw [show bits .andNot .u64 (tn x) (tn y) = tn (b64 (tn x) &&& ~~~ b64 (tn y)) from wrapNat64 _, b64_tn, b64_tn]
theorem wrapI (a : Int) : IntKind.i64.wrap a = ti (b64 a) := by
  rw [IntKind.wrap_i64]
  have h := toInt64 a
  unfold wrap64 at h
  exact h
theorem toI64 (x : BitVec 64) : IntKind.i64.wrap (tn x) = ti x := by
  rw [wrapI, b64_tn]
theorem b64_ti (x : BitVec 64) : b64 (ti x) = x := by unfold b64 ti; exact BitVec.ofInt_toInt
theorem ofI (x : BitVec 64) : BitVec.ofInt 64 (ti x) = x := by unfold ti; exact BitVec.ofInt_toInt
theorem addIT (x y : BitVec 64) : IntKind.i64.wrap (ti x + ti y) = ti (x + y) := by
  rw [wrapI]; unfold b64; rw [BitVec.ofInt_add, ofI, ofI]
theorem subIT (x y : BitVec 64) : IntKind.i64.wrap (ti x - ti y) = ti (x - y) := by
  rw [wrapI]; unfold b64; rw [Int.sub_eq_add_neg, BitVec.ofInt_add, BitVec.ofInt_neg, ofI, ofI, BitVec.sub_eq_add_neg]
theorem mulIT (x y : BitVec 64) : IntKind.i64.wrap (ti x * ti y) = ti (x * y) := by
  rw [wrapI]; unfold b64; rw [BitVec.ofInt_mul, ofI, ofI]
theorem xorIT (x y : BitVec 64) : bits .xor .i64 (ti x) (ti y) = ti (x ^^^ y) := by
  have h : bits .xor .i64 (ti x) (ti y) = IntKind.i64.wrap ((b64 (ti x) ^^^ b64 (ti y)).toNat : Int) := rfl
  rw [h, wrapI, b64_ti, b64_ti]
  unfold b64
  rw [BitVec.ofInt_natCast, BitVec.ofNat_toNat, BitVec.setWidth_eq]
theorem backI (x : BitVec 64) : IntKind.u64.wrap (ti x) = tn x := back64 x
theorem cutU64 (x : BitVec 64) : IntKind.u32.wrap (tn x) = tn (BitVec.setWidth 32 x) := by
  rw [IntKind.wrap_u32]; unfold tn; rw [BitVec.toNat_setWidth]; omega
theorem cut8U64 (x : BitVec 64) : IntKind.u8.wrap (tn x) = tn (BitVec.setWidth 8 x) := by
  rw [IntKind.wrap_u8]; unfold tn; rw [BitVec.toNat_setWidth]; omega
theorem wide8I (x : BitVec 8) : IntKind.i64.wrap (tn x) = ti (BitVec.setWidth 64 x) := by
  have := x.isLt
  rw [wrapI, show b64 (tn x) = BitVec.setWidth 64 x from BitVec.eq_of_toNat_eq (by unfold b64 tn; rw [BitVec.toNat_ofInt, BitVec.toNat_setWidth]; omega)]
theorem wide32 (x : BitVec 32) : IntKind.u64.wrap (tn x) = tn (BitVec.setWidth 64 x) := by
  have := x.isLt
  rw [IntKind.wrap_u64]; unfold tn; rw [BitVec.toNat_setWidth]; omega
theorem quoUT (x y : BitVec 64) : IntKind.u64.wrap ((tn x).tdiv (tn y)) = tn (x / y) := by
  have h0 := tn_lo (x / y); have h1 := tn_hi64 (x / y)
  have e : (tn x).tdiv (tn y) = tn (x / y) := by
    rw [Int.tdiv_eq_ediv_of_nonneg (tn_lo x), div64 _ _ (tn_lo x) (tn_hi64 x) (tn_lo y) (tn_hi64 y), b64_tn, b64_tn]
  rw [e, IntKind.wrap_u64]; omega
theorem remUT (x y : BitVec 64) : (tn x).tmod (tn y) = tn (x % y) := by
  rw [Int.tmod_eq_emod_of_nonneg (tn_lo x), mod64 _ _ (tn_lo x) (tn_hi64 x) (tn_lo y) (tn_hi64 y), b64_tn, b64_tn]
theorem shlUU (x y : BitVec 64) (h : 0 ≤ tn y) : Op.shift .shl .u64 (tn x) .u64 (tn y) = pure (.int .u64 (tn (x <<< y.toNat))) := by
  have e : Op.shift .shl .u64 (tn x) .u64 (tn y) = pure (.int .u64 (IntKind.u64.wrap (tn x * 2 ^ (min y.toNat 64)))) := by
    simp [Op.shift, IntKind.bits, show ¬ tn y < 0 by omega]
    rfl
  rw [e, shl64, b64_tn]
  by_cases k : y.toNat ≤ 64
  · rw [Nat.min_eq_left k]
  · rw [Nat.min_eq_right (by omega), BitVec.shiftLeft_eq_zero (by omega), BitVec.shiftLeft_eq_zero (by omega)]
theorem shrUUp (x y : BitVec 64) (h : 0 ≤ tn y) : Op.shift .shr .u64 (tn x) .u64 (tn y) = pure (.int .u64 (tn (x >>> y.toNat))) := by
  have e : Op.shift .shr .u64 (tn x) .u64 (tn y) = pure (.int .u64 ((tn x).fdiv (2 ^ (min y.toNat 64)))) := by
    simp [Op.shift, IntKind.bits, show ¬ tn y < 0 by omega]
    rfl
  rw [e, Int.fdiv_eq_ediv_of_nonneg _ (Int.le_of_lt (Int.pow_pos (by decide))), shr64 _ _ (tn_lo x) (tn_hi64 x), b64_tn]
  by_cases k : y.toNat ≤ 64
  · rw [Nat.min_eq_left k]
  · rw [Nat.min_eq_right (by omega), BitVec.ushiftRight_eq_zero (by omega), BitVec.ushiftRight_eq_zero (by omega)]
theorem shrIUp (x y : BitVec 64) (h : 0 ≤ tn y) : Op.shift .shr .i64 (ti x) .u64 (tn y) = pure (.int .i64 (ti (BitVec.sshiftRight x y.toNat))) := by
  have e : Op.shift .shr .i64 (ti x) .u64 (tn y) = pure (.int .i64 ((ti x).fdiv (2 ^ (min y.toNat 64)))) := by
    simp [Op.shift, IntKind.bits, show ¬ tn y < 0 by omega]
    rfl
  have hs : ∀ k, (ti x) / 2 ^ k = ti (BitVec.sshiftRight x k) := fun k => by
    have := sar64 (ti x) k
    rw [b64_ti] at this
    exact this
  rw [e, Int.fdiv_eq_ediv_of_nonneg _ (Int.le_of_lt (Int.pow_pos (by decide))), hs]
  by_cases k : y.toNat ≤ 64
  · rw [Nat.min_eq_left k]
  · rw [Nat.min_eq_right (by omega)]
    congr 3
    apply BitVec.eq_of_getLsbD_eq
    intro i hi
    rw [BitVec.getLsbD_sshiftRight, BitVec.getLsbD_sshiftRight]
    simp [show ¬ 64 + i < 64 by omega, show ¬ y.toNat + i < 64 by omega]
theorem shrUU (x y : BitVec 64) (_ : 0 ≤ tn y) : tn x / 2 ^ (min (tn y).toNat 64) = tn (x >>> y.toNat) := by
  rw [shr64 _ _ (tn_lo x) (tn_hi64 x), b64_tn]
  show tn (x >>> (min y.toNat 64)) = _
  by_cases k : y.toNat ≤ 64
  · rw [Nat.min_eq_left k]
  · rw [Nat.min_eq_right (by omega), BitVec.ushiftRight_eq_zero (by omega), BitVec.ushiftRight_eq_zero (by omega)]
theorem shlUUr (x y : BitVec 64) (_ : 0 ≤ tn y) : IntKind.u64.wrap (tn x * 2 ^ (min (tn y).toNat 64)) = tn (x <<< y.toNat) := by
  rw [shl64, b64_tn]
  show tn (x <<< (min y.toNat 64)) = _
  by_cases k : y.toNat ≤ 64
  · rw [Nat.min_eq_left k]
  · rw [Nat.min_eq_right (by omega), BitVec.shiftLeft_eq_zero (by omega), BitVec.shiftLeft_eq_zero (by omega)]
theorem shl1U (y : BitVec 64) (h : 0 ≤ tn y) : IntKind.u64.wrap (2 ^ (min (tn y).toNat 64)) = tn (1#64 <<< y.toNat) := by
  have e := shlUUr 1#64 y h
  rw [show tn 1#64 = 1 from rfl, Int.one_mul] at e
  exact e
theorem sarAll (x : BitVec 64) {m k : Nat} (hm : 64 ≤ m) (hk : 64 ≤ k) : BitVec.sshiftRight x m = BitVec.sshiftRight x k := by
  apply BitVec.eq_of_getLsbD_eq
  intro i hi
  rw [BitVec.getLsbD_sshiftRight, BitVec.getLsbD_sshiftRight]
  simp [show ¬ m + i < 64 by omega, show ¬ k + i < 64 by omega]
theorem shrIU (x y : BitVec 64) (_ : 0 ≤ tn y) : ti x / 2 ^ (min (tn y).toNat 64) = ti (BitVec.sshiftRight x y.toNat) := by
  have hs : ∀ k, (ti x) / 2 ^ k = ti (BitVec.sshiftRight x k) := fun k => by
    have := sar64 (ti x) k
    rw [b64_ti] at this
    exact this
  rw [hs]
  show ti (BitVec.sshiftRight x (min y.toNat 64)) = _
  by_cases k : y.toNat ≤ 64
  · rw [Nat.min_eq_left k]
  · rw [Nat.min_eq_right (by omega), sarAll x (Nat.le_refl 64) (show 64 ≤ y.toNat by omega)]
def len8 (x : BitVec 8) : BitVec 8 := if x = 0#8 then 0#8 else BitVec.ofNat 8 (Nat.log2 x.toNat + 1)
def tab8 : ByteArray := ⟨#[0, 1, 2, 2, 3, 3, 3, 3, 4, 4, 4, 4, 4, 4, 4, 4, 5, 5, 5, 5, 5, 5, 5, 5, 5, 5, 5, 5, 5, 5, 5, 5, 6, 6, 6, 6, 6, 6, 6, 6, 6, 6, 6, 6, 6, 6, 6, 6, 6, 6, 6, 6, 6, 6, 6, 6, 6, 6, 6, 6, 6, 6, 6, 6, 7, 7, 7, 7, 7, 7, 7, 7, 7, 7, 7, 7, 7, 7, 7, 7, 7, 7, 7, 7, 7, 7, 7, 7, 7, 7, 7, 7, 7, 7, 7, 7, 7, 7, 7, 7, 7, 7, 7, 7, 7, 7, 7, 7, 7, 7, 7, 7, 7, 7, 7, 7, 7, 7, 7, 7, 7, 7, 7, 7, 7, 7, 7, 7, 8, 8, 8, 8, 8, 8, 8, 8, 8, 8, 8, 8, 8, 8, 8, 8, 8, 8, 8, 8, 8, 8, 8, 8, 8, 8, 8, 8, 8, 8, 8, 8, 8, 8, 8, 8, 8, 8, 8, 8, 8, 8, 8, 8, 8, 8, 8, 8, 8, 8, 8, 8, 8, 8, 8, 8, 8, 8, 8, 8, 8, 8, 8, 8, 8, 8, 8, 8, 8, 8, 8, 8, 8, 8, 8, 8, 8, 8, 8, 8, 8, 8, 8, 8, 8, 8, 8, 8, 8, 8, 8, 8, 8, 8, 8, 8, 8, 8, 8, 8, 8, 8, 8, 8, 8, 8, 8, 8, 8, 8, 8, 8, 8, 8, 8, 8, 8, 8, 8, 8, 8, 8, 8, 8, 8, 8, 8, 8]⟩
theorem len8_all : ∀ k : Fin 256, (tab8.data[k.val]?.getD 0).toNat = (len8 (BitVec.ofNat 8 k.val)).toNat := by decide +kernel
theorem lt8 (y : BitVec 8) : tn y < 256 := by have := y.isLt; unfold tn; omega
theorem len8_tab (y : BitVec 8) (h : (tn y).toNat < tab8.size) : ((tab8[(tn y).toNat]'h).toNat : Int) = tn (len8 y) := by
  have hy := y.isLt
  have k := len8_all ⟨y.toNat, hy⟩
  simp only [BitVec.ofNat_toNat, BitVec.setWidth_eq] at k
  have e : tab8.data[y.toNat]? = some (tab8[(tn y).toNat]'h) := Array.getElem?_eq_getElem h
  rw [e] at k
  unfold tn
  rw [← k]
  rfl
end Go.Proofs.YtejcjjimhaokfaaDoor.Up
