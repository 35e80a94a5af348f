/-
  Plain facts: the program's table tells of an instruction what the document's does.
-/
import Derived.Test.YtpknnmnknaaccaaDevCheck
import Derived.Test.YtpknnmnknaaccaaEnc
namespace Go.Proofs.Ytpknnmnknaaccaa.Insn
open Go.RowKit Go.Proofs.Ytpknnmnknaaccaa.Num
def agreeB (f : Option FV) (r : RowV) (op : Int) : Bool :=
  match f with
  | none => !r.is
  | some f => r.is && ((f.dst == 2 && r.wr) || ((f.dst == 0 || f.dst == 1) && !r.wr)) && ((f.src == 3 && atB op) || ((f.src == 0 || f.src == 1 || f.src == 4) && !atB op)) &&
      ((f.dst == 0) == !hasB r.f 100) && ((f.src == 0) == !hasB r.f 115) && (f.off == hasB r.f 111) && ((f.imm == 0) == !hasB r.f 105) && ((f.src == 4) == (op == 24)) &&
      ((f.imm == 2 && r.lo == 0 && r.hi == bitsO (op % 8) - 1 && !atB op && !(op == 212 || op == 220) && op != 24) ||
       (f.imm == 3 && r.lo == -2147483648 && r.hi == 2147483647 && !atB op && (op == 212 || op == 220) && op != 24) ||
       (f.imm == 4 && r.lo == -2147483648 && r.hi == 2147483647 && atB op && !(op == 212 || op == 220) && op != 24) ||
       (f.imm == 5 && r.lo == -9223372036854775808 && r.hi == 9223372036854775807 && !atB op && !(op == 212 || op == 220) && op == 24) ||
       ((f.imm == 0 || f.imm == 1) && r.lo == -2147483648 && r.hi == 2147483647 && !atB op && !(op == 212 || op == 220) && op != 24))
theorem agree_all : ((List.range 256).all fun k => agreeB (rowsF ((k : Int) % 8) (k : Int)) (findR (k : Int)) (k : Int)) = true := by kernel_rfl
def keysIn (rs : List RowD) : Bool := rs.all fun r => r.ops.all fun k => decide (0 ≤ k) && decide (k ≤ 255)
def Low (F : Fun) : Prop := ∀ k, k < 0 ∨ 255 < k → F k = none
theorem low_puts (f : FV) (ops : List Int) : ∀ {F : Fun}, Low F → (ops.all fun k => decide (0 ≤ k) && decide (k ≤ 255)) = true → Low (putOps f F ops) := by
  induction ops with
  | nil => intro F h _; exact h
  | cons a l ih =>
    intro F h ha
    simp only [List.all_cons, Bool.and_eq_true, decide_eq_true_eq] at ha
    refine ih (F := putOp f F a) (fun k hk => ?_) ha.2
    unfold putOp
    rw [if_neg (by omega)]
    exact h k hk
theorem low_rows (rs : List RowD) : ∀ {F : Fun}, Low F → keysIn rs = true → Low (putRows F rs) := by
  induction rs with
  | nil => intro F h _; exact h
  | cons a l ih =>
    intro F h ha
    unfold keysIn at ha
    simp only [List.all_cons, Bool.and_eq_true] at ha
    refine ih (F := putOps a.f F a.ops) (low_puts a.f a.ops h ?_) ?_
    · simpa using ha.1
    · unfold keysIn; simpa using ha.2
theorem low_no : Low noF := fun _ _ => rfl
theorem low_rowsF (c : Int) : Low (rowsF c) := by
  unfold rowsF opsF cmpF
  repeat' split
  all_goals repeat' (first | exact low_no | (refine low_rows _ ?_ (by kernel_rfl)))
theorem agree (op : Int) : agreeB (rowsF (op % 8) op) (findR op) op = true := by
  by_cases h : op < 0 ∨ 255 < op
  · rw [low_rowsF _ _ h]
    unfold findR
    rw [if_pos h]; rfl
  · have a := List.all_eq_true.1 agree_all op.toNat (List.mem_range.2 (by omega))
    rw [Int.toNat_of_nonneg (by omega)] at a
    exact a
theorem reg_eq (f : FV) (op d s m : Int) (wr : Bool) (hd : (f.dst = 2 ∧ wr = true) ∨ ((f.dst = 0 ∨ f.dst = 1) ∧ wr = false)) (hs : (f.src = 3 ∧ atB op = true) ∨ ((f.src = 0 ∨ f.src = 1 ∨ f.src = 4) ∧ atB op = false)) :
    regB op d s m wr = !regD f d s m := by
  have l1 : lastR f.dst m = if wr then 9 else 10 := by
    unfold lastR
    rcases hd with ⟨h, rfl⟩ | ⟨h, rfl⟩
    · rw [h]; rfl
    · rcases h with h | h <;> rw [h] <;> rfl
  have l2 : lastR f.src m = if atB op && atomF m then 9 else 10 := by
    unfold lastR
    rcases hs with ⟨h, ha⟩ | ⟨h, ha⟩
    · rw [h, ha]; rfl
    · rcases h with h | h | h <;> rw [h, ha] <;> rfl
  unfold regB regD fitsR
  rw [l1, l2, Bool.eq_iff_iff]
  cases wr <;> cases atB op <;> cases atomF m
  all_goals simp
  all_goals omega
theorem field_eq (f : FV) (op d s o m : Int) (t : ByteArray) (h1 : (f.dst == 0) = !hasB t 100) (h2 : (f.src == 0) = !hasB t 115) (h3 : f.off = hasB t 111) (h4 : (f.imm == 0) = !hasB t 105) (h5 : (f.src == 4) = (op == 24)) :
    fieldB op d s o m t = !zeroD f d s o m := by
  unfold fieldB zeroD
  rw [h1, h2, h3, h4, h5, Bool.not_not]
  generalize (!hasB t 100 && d != 0) = a
  generalize (!hasB t 115 && s != 0) = b
  generalize (!hasB t 111 && o != 0) = c
  generalize (!hasB t 105 && m != 0) = e
  generalize (op == 24 && decide (1 < s)) = g
  cases a <;> cases b <;> cases c <;> cases e <;> cases g <;> rfl
theorem num_eq (f : FV) (r : RowV) (op s o m : Int) (m64 : -9223372036854775808 ≤ m ∧ m ≤ 9223372036854775807) (hs : op = 24 → 0 ≤ s ∧ s ≤ 1)
    (h : (f.imm = 2 ∧ r.lo = 0 ∧ r.hi = bitsO (op % 8) - 1 ∧ atB op = false ∧ ¬(op = 212 ∨ op = 220) ∧ op ≠ 24) ∨ (f.imm = 3 ∧ r.lo = -2147483648 ∧ r.hi = 2147483647 ∧ atB op = false ∧ (op = 212 ∨ op = 220) ∧ op ≠ 24) ∨
      (f.imm = 4 ∧ r.lo = -2147483648 ∧ r.hi = 2147483647 ∧ atB op = true ∧ ¬(op = 212 ∨ op = 220) ∧ op ≠ 24) ∨ (f.imm = 5 ∧ r.lo = -9223372036854775808 ∧ r.hi = 9223372036854775807 ∧ atB op = false ∧ ¬(op = 212 ∨ op = 220) ∧ op = 24) ∨
      ((f.imm = 0 ∨ f.imm = 1) ∧ r.lo = -2147483648 ∧ r.hi = 2147483647 ∧ atB op = false ∧ ¬(op = 212 ∨ op = 220) ∧ op ≠ 24)) :
    rangeB op s o m r.lo r.hi = !numD f op s o m := by
  have hat : atB op = true ↔ (op = 195 ∨ op = 219) := by unfold atB; simp
  have hat' : atB op = false → ¬(op = 195 ∨ op = 219) := fun e c => by rw [hat.2 c] at e; cases e
  have so : sfits o 32768 = !(decide (o < -32768) || decide (32767 < o)) := by
    unfold sfits; rw [Bool.eq_iff_iff]; simp; omega
  unfold rangeB numD
  rw [so]
  generalize (decide (o < -32768) || decide (32767 < o)) = a
  have key : rangedB op s m r.lo r.hi = immD f.imm op s m := by
    unfold rangedB
    rcases h with ⟨h0, h1, h2, h3, h4, h5⟩ | ⟨h0, h1, h2, h3, h4, h5⟩ | ⟨h0, h1, h2, h3, h4, h5⟩ | ⟨h0, h1, h2, h3, h4, h5⟩ | ⟨h0, h1, h2, h3, h4, h5⟩
    · rw [h0, h1, h2, show immD 2 op s m = (decide (0 ≤ m) && decide (m < bitsO (op % 8))) from rfl]
      by_cases hm : m < 0 ∨ bitsO (op % 8) - 1 < m
      · rw [if_pos hm, Bool.eq_iff_iff]; simp; omega
      · rw [if_neg hm, if_neg (hat' h3), if_neg h4, if_neg h5, Bool.eq_iff_iff]; simp; omega
    · rw [h0, h1, h2, show immD 3 op s m = (m == 16 || m == 32 || m == 64) from rfl]
      by_cases hm : m < -2147483648 ∨ 2147483647 < m
      · rw [if_pos hm, Bool.eq_iff_iff]; simp; omega
      · rw [if_neg hm, if_neg (hat' h3), if_pos h4]
    · rw [h0, h1, h2, show immD 4 op s m = atomIs m from rfl]
      by_cases hm : m < -2147483648 ∨ 2147483647 < m
      · rw [if_pos hm, Bool.eq_iff_iff]; unfold atomIs; simp; omega
      · rw [if_neg hm, if_pos (hat.1 h3)]
    · rw [h0, h1, h2, show immD 5 op s m = (s != 1 || (decide (0 ≤ m) && decide (m ≤ 2147483647))) from rfl]
      have := hs h5
      have e : (s == 0) = (s != 1) := by rw [Bool.eq_iff_iff]; simp; omega
      rw [if_neg (by omega), if_neg (hat' h3), if_neg h4, if_pos h5, e]
    · rw [h1, h2, show immD f.imm op s m = sfits m 2147483648 by rcases h0 with h0 | h0 <;> rw [h0] <;> rfl]
      unfold sfits
      by_cases hm : m < -2147483648 ∨ 2147483647 < m
      · rw [if_pos hm, Bool.eq_iff_iff]; simp; omega
      · rw [if_neg hm, if_neg (hat' h3), if_neg h4, if_neg h5, Bool.eq_iff_iff]; simp; omega
  rw [key]
  cases a <;> cases immD f.imm op s m <;> rfl
theorem chk_eq (op d s o m : Int) (m64 : -9223372036854775808 ≤ m ∧ m ≤ 9223372036854775807) : chkD op d s o m = Insn.chk op d s o m := by
  have A := agree op
  unfold Insn.chk chkR
  cases hF : rowsF (op % 8) op with
  | none =>
    rw [hF] at A
    rw [chkD_none op d s o m hF, if_pos (by simpa [agreeB] using A)]
  | some f =>
    rw [hF] at A
    unfold agreeB at A
    simp only [Bool.and_eq_true, beq_iff_eq, Bool.or_eq_true, Bool.not_eq_true', bne_iff_ne, Bool.or_eq_false_iff] at A
    obtain ⟨⟨⟨⟨⟨⟨⟨⟨A0, A1⟩, A2⟩, A3⟩, A4⟩, A5⟩, A6⟩, A7⟩, A8⟩ := A
    have e0 : ¬ ((findR op).is = false) := by rw [A0]; simp
    rw [if_neg e0, chkD_some op d s o m f hF]
    have R := reg_eq f op d s m (findR op).wr A1 (by
      rcases A2 with h | h
      · exact Or.inl h
      · exact Or.inr ⟨by rcases h.1 with (h | h) | h <;> simp [h], h.2⟩)
    have Fe := field_eq f op d s o m (findR op).f A3 A4 A5 A6 A7
    rw [R, Fe]
    cases hr : regD f d s m
    · rfl
    · cases hz : zeroD f d s o m
      · rfl
      · simp only [Bool.not_true, Bool.false_eq_true, if_false, Bool.true_eq_false]
        have N := num_eq f (findR op) op s o m m64 (fun h24 => by
          rw [h24] at A7
          have h4 : f.src = 4 := by simpa using A7
          unfold zeroD at hz
          rw [h4] at hz
          simp at hz
          unfold regD fitsR at hr
          simp at hr
          omega) (by
          rcases A8 with (((h | h) | h) | h) | h
          · exact Or.inl ⟨h.1.1.1.1.1, h.1.1.1.1.2, h.1.1.1.2, h.1.1.2, by have := h.1.2; simp at this; omega, h.2⟩
          · exact Or.inr (Or.inl ⟨h.1.1.1.1.1, h.1.1.1.1.2, h.1.1.1.2, h.1.1.2, h.1.2, h.2⟩)
          · exact Or.inr (Or.inr (Or.inl ⟨h.1.1.1.1.1, h.1.1.1.1.2, h.1.1.1.2, h.1.1.2, by have := h.1.2; simp at this; omega, h.2⟩))
          · exact Or.inr (Or.inr (Or.inr (Or.inl ⟨h.1.1.1.1.1, h.1.1.1.1.2, h.1.1.1.2, h.1.1.2, by have := h.1.2; simp at this; omega, h.2⟩)))
          · exact Or.inr (Or.inr (Or.inr (Or.inr ⟨h.1.1.1.1.1, h.1.1.1.1.2, h.1.1.1.2, h.1.1.2, by have := h.1.2; simp at this; omega, h.2⟩))))
        rw [N]
        cases numD f op s o m <;> rfl
end Go.Proofs.Ytpknnmnknaaccaa.Insn
