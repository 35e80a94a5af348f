/-
  The document's answers are the program's: Mul, Moved. Plain facts: no program is looked at here.
-/
import Derived.Test.YtpbhfpogbndljaaDoorRtI
namespace Go.Proofs.YtpbhfpogbndljaaDoor.Rt
open Go.RowKit Go.Proofs.YtpbhfpogbndljaaDoor.Num Go.Proofs.YtpbhfpogbndljaaDoor.Up Go.Proofs.YtpbhfpogbndljaaDoor.Tn
theorem known_lo (x : T) (h : x.m = 0#64) : x.lo = x.v := by
  unfold T.lo; rw [h]; exact BitVec.and_allOnes (x := x.v)
theorem mul_eq (a b : T) : refMul (toP a) (toP b) = toP (mulR a b (nou (toP a)) (nou (toP b))) := by
  have c : (bif a.m == 0#64 then b.m == 0#64 else false) = (a.m ||| b.m == 0#64) := by
    rw [Bool.eq_iff_iff, beq_iff_eq]
    constructor
    · intro h
      cases e : (a.m == 0#64)
      · rw [e] at h; cases h
      · rw [e] at h
        rw [beq_iff_eq.1 e, beq_iff_eq.1 h]; rfl
    · intro h
      have := BitVec.or_eq_zero_iff.1 h
      rw [this.1, this.2]; rfl
  unfold refMul mulR
  show (bif (bif a.m == 0#64 then b.m == 0#64 else false) then P.mk (a.v * b.v) 0#64 else tnumB (mulB (nou (toP a) + nou (toP b)))) = _
  rw [c]
  cases hz : (a.m ||| b.m == 0#64)
  · rw [cond_f rfl]
    refine P_ext (fun i h => ?_) (fun i h => ?_)
    · rw [tnumB_lo _ i h]; simp [mulB, toP]
    · rw [tnumB_hi _ i h]
      show (true && decide (i ≥ nou (toP a) + nou (toP b))) = (BitVec.allOnes 64 <<< (nou (toP a) + nou (toP b))).getLsbD i
      rw [BitVec.getLsbD_shiftLeft, BitVec.getLsbD_allOnes]
      by_cases k : i < nou (toP a) + nou (toP b)
      · simp [k, h]
      · simp [k, h, show nou (toP a) + nou (toP b) ≤ i by omega, show i - (nou (toP a) + nou (toP b)) < 64 by omega]
  · rw [cond_t rfl]
    have hm := BitVec.or_eq_zero_iff.1 (beq_iff_eq.1 hz)
    have ha : a.lo = a.v := known_lo a hm.1
    have hb : b.lo = b.v := known_lo b hm.2
    rw [ha, hb]
    rfl
theorem mod_k (n : BitVec 64) : (n % 64#64).toNat = n.toNat % 64 := by rw [BitVec.toNat_umod]; rfl
theorem lsh_eq (a : T) (n : BitVec 64) : tnumB (movB true false (ofB (toP a)) (n % 64#64).toNat) = toP (shiftR 96 a n) := by
  rw [mod_k]
  have e : shiftR 96 a n = ⟨a.lo <<< (n.toNat % 64), a.m <<< (n.toNat % 64)⟩ := rfl
  rw [e]
  generalize n.toNat % 64 = K
  refine P_ext (fun i h => ?_) (fun i h => ?_)
  · rw [tnumB_lo _ i h]
    show _ = (a.lo <<< K).getLsbD i
    rw [BitVec.getLsbD_shiftLeft]
    unfold movB fromI
    by_cases k : i < K
    · simp [k, optB]
    · simp only [cond_true, k, if_false, optB, h, decide_true, decide_false, Bool.not_false, Bool.true_and]
      rw [lo_bit a _ (by omega)]
      simp only [ofB, toP]
      cases a.v.getLsbD (i - K) <;> cases a.m.getLsbD (i - K) <;> rfl
  · rw [tnumB_hi _ i h]
    show _ = (a.m <<< K).getLsbD i
    rw [BitVec.getLsbD_shiftLeft]
    unfold movB fromI
    by_cases k : i < K
    · simp [k, optB]
    · simp only [cond_true, k, if_false, optB, h, decide_true, decide_false, Bool.not_false, Bool.true_and]
      simp only [ofB, toP]
      cases a.v.getLsbD (i - K) <;> cases a.m.getLsbD (i - K) <;> rfl
theorem rsh_eq (a : T) (n : BitVec 64) : tnumB (movB false false (ofB (toP a)) (n % 64#64).toNat) = toP (shiftR 112 a n) := by
  rw [mod_k]
  have e : shiftR 112 a n = ⟨a.lo >>> (n.toNat % 64), a.m >>> (n.toNat % 64)⟩ := rfl
  rw [e]
  generalize n.toNat % 64 = K
  refine P_ext (fun i h => ?_) (fun i h => ?_)
  · rw [tnumB_lo _ i h]
    show _ = (a.lo >>> K).getLsbD i
    rw [BitVec.getLsbD_ushiftRight]
    unfold movB fromI
    by_cases k : i + K > 63
    · rw [BitVec.getLsbD_of_ge _ _ (by omega)]; simp [k, optB]
    · simp only [cond_false, k, if_false, optB]
      rw [lo_bit a _ (by omega), Nat.add_comm K i]
      simp only [ofB, toP]
      cases a.v.getLsbD (i + K) <;> cases a.m.getLsbD (i + K) <;> rfl
  · rw [tnumB_hi _ i h]
    show _ = (a.m >>> K).getLsbD i
    rw [BitVec.getLsbD_ushiftRight]
    unfold movB fromI
    by_cases k : i + K > 63
    · rw [BitVec.getLsbD_of_ge _ _ (by omega)]; simp [k, optB]
    · simp only [cond_false, k, if_false, optB]
      rw [Nat.add_comm K i]
      simp only [ofB, toP]
      cases a.v.getLsbD (i + K) <;> cases a.m.getLsbD (i + K) <;> rfl
theorem arsh_eq (a : T) (n : BitVec 64) : tnumB (movB false true (ofB (toP a)) (n % 64#64).toNat) = toP (shiftR 192 a n) := by
  rw [mod_k]
  have e : shiftR 192 a n = ⟨a.lo.sshiftRight (n.toNat % 64), a.m.sshiftRight (n.toNat % 64)⟩ := rfl
  rw [e]
  generalize n.toNat % 64 = K
  have s : ∀ (x : BitVec 64) (i : Nat), i < 64 → (x.sshiftRight K).getLsbD i = x.getLsbD (if i + K > 63 then 63 else i + K) := by
    intro x i h
    rw [BitVec.getLsbD_sshiftRight]
    by_cases k : i + K > 63
    · rw [if_pos k, if_neg (by omega), BitVec.msb_eq_getLsbD_last]; simp [show ¬ 64 ≤ i by omega]
    · rw [if_neg k, if_pos (by omega), Nat.add_comm K i]; simp [show ¬ 64 ≤ i by omega]
  have f : ∀ i, fromI false true K i = some (if i + K > 63 then 63 else i + K) := by
    intro i; unfold fromI
    by_cases k : i + K > 63
    · simp [k]
    · simp [k]
  refine P_ext (fun i h => ?_) (fun i h => ?_)
  · rw [tnumB_lo _ i h]
    show _ = (a.lo.sshiftRight K).getLsbD i
    rw [s _ i h]
    unfold movB
    simp only [f, optB]
    generalize hj : (if i + K > 63 then 63 else i + K) = j
    rw [lo_bit a _ (by subst hj; split <;> omega)]
    simp only [ofB, toP]
    cases a.v.getLsbD j <;> cases a.m.getLsbD j <;> rfl
  · rw [tnumB_hi _ i h]
    show _ = (a.m.sshiftRight K).getLsbD i
    rw [s _ i h]
    unfold movB
    simp only [f, optB]
    generalize (if i + K > 63 then 63 else i + K) = j
    simp only [ofB, toP]
    cases a.v.getLsbD j <;> cases a.m.getLsbD j <;> rfl
end Go.Proofs.YtpbhfpogbndljaaDoor.Rt
