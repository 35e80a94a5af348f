/-
  The walk of the law DeclBits.
-/
import Derived.Test.YtejcjjimhaokfaaDoorDlW
import Derived.Test.YtejcjjimhaokfaaDoorDlQ
namespace Go.Proofs.YtejcjjimhaokfaaDoor.Dcl
open Go.RowKit Go.Proofs.YtejcjjimhaokfaaDoor.Num Go.Proofs.YtejcjjimhaokfaaDoor.Up Go.Proofs.YtejcjjimhaokfaaDoor.Tn
theorem bits_lo (x n : BitVec 64) {r : Nat} (h : r = 64) : decide (cntB (decl_Bloom x n).2 r ≥ 1) = true := by
  rw [h]; exact decide_eq_true (or3_cnt _).1
theorem bits_hi (x n : BitVec 64) {r : Nat} (h : r = 64) : decide (cntB (decl_Bloom x n).2 r ≤ 3) = true := by
  rw [h]; exact decide_eq_true (or3_cnt _).2
theorem at_zero {x n : BitVec 64} (h : ltI n 1#64 = true) : (decl_Bloom x n).1 = 0#64 := by
  show decl_Bucket x n = 0#64
  unfold decl_Bucket
  rw [h]; rfl
theorem at_lo (x n : BitVec 64) : geI (decl_Bloom x n).1 0#64 = true := by
  cases h : ltI n 1#64
  · have := (bucket_in x n (by rw [geI_not, h]; rfl)).1
    exact decide_eq_true this
  · rw [at_zero h]; decide
theorem at_hi {x n : BitVec 64} (h : ltI n 1#64 = false) : ltI (decl_Bloom x n).1 n = true := decide_eq_true (bucket_in x n (by rw [geI_not, h]; rfl)).2
theorem at_no {x n : BitVec 64} (h : ltI n 1#64 = true) : ltI (decl_Bloom x n).1 n = false := by
  rw [at_zero h]
  have h' := of_decide_eq_true h
  rw [show ti 1#64 = 1 from by decide] at h'
  refine decide_eq_false ?_
  rw [show ti 0#64 = 0 from by decide]; omega
theorem at_is {x n : BitVec 64} (h : ltI n 1#64 = true) : ((decl_Bloom x n).1 == 0#64) = true := by rw [at_zero h]; rfl
set_option maxRecDepth 100000 in
set_option maxHeartbeats 4000000 in
theorem bits_1 (x0 : BitVec 64) (x1 : BitVec 64)   (hn : ltI x1 1#64 = false) (w : World) (hT : Tn.Tab w) :
    Calls Tryd.prog 6 #[.int .u64 (tn (x0)), .int .i64 (ti (x1))] w fun e w' => e = .returned (.bool true) ∧ Below w.heap.size w w' := by
  have HT := hid hT
  clear hT
  have Hhn := hid hn
  clear hn
  go_enter Tryd.func6, Tryd.ntmps6
  have HS := hid (st_nil w)
  -- region 1
  go_upto_region 1 with fail
  refine lin_begin (St w []) rfl HS.out ?_
  refine lin_val (i := 0) (v := .int .u64 (tn (x0))) rfl rfl (by rfl) (by intro x hx; go_simp; (first | done | exact rfl)) ?_
  simp only [List.set_cons_succ, List.set_cons_zero]
  refine lin_val (i := 1) (v := .int .i64 (ti (x1))) rfl rfl (by rfl) (by intro x hx; go_simp; (first | done | exact rfl)) ?_
  simp only [List.set_cons_succ, List.set_cons_zero]
  refine lin_call (i := 2) (f := 13) (args := #[.int .u64 (tn (x0)), .int .i64 (ti (x1))]) (v := .tuple #[.int .i64 (ti ((decl_Bloom x0 x1).1)), .int .u64 (tn ((decl_Bloom x0 x1).2))]) (st_ups _ _) rfl rfl (by rfl) (fun x hx => by kernel_rfl) (by intro x hx; exact decl_Bloom_any x0 x1 _) ?_
  simp only [List.set_cons_succ, List.set_cons_zero]
  refine lin_val (i := 3) (v := .tuple #[.int .i64 (ti ((decl_Bloom x0 x1).1)), .int .u64 (tn ((decl_Bloom x0 x1).2))]) rfl rfl (by rfl) (by intro x hx; go_simp; (first | done | exact rfl)) ?_
  simp only [List.set_cons_succ, List.set_cons_zero]
  refine lin_val (i := 4) (v := .int .i64 (ti ((decl_Bloom x0 x1).1))) rfl rfl (by rfl) (by intro x hx; go_simp; (first | done | exact rfl)) ?_
  simp only [List.set_cons_succ, List.set_cons_zero]
  refine lin_val (i := 5) (v := .int .u64 (tn ((decl_Bloom x0 x1).2))) rfl rfl (by rfl) (by intro x hx; go_simp; (first | done | exact rfl)) ?_
  simp only [List.set_cons_succ, List.set_cons_zero]
  refine lin_val (i := 6) (v := .int .i64 (ti ((decl_Bloom x0 x1).1))) rfl rfl (by rfl) (by intro x hx; go_simp; (first | done | exact rfl)) ?_
  simp only [List.set_cons_succ, List.set_cons_zero]
  refine lin_val (i := 7) (v := .int .u64 (tn ((decl_Bloom x0 x1).2))) rfl rfl (by rfl) (by intro x hx; go_simp; (first | done | exact rfl)) ?_
  simp only [List.set_cons_succ, List.set_cons_zero]
  refine lin_done ?_
  intro W1 hx
  replace HS := hid hx
  clear hx
  -- region 2
  go_upto_region 2 with fail
  refine lin_begin (St w []) rfl HS.out ?_
  refine lin_val (i := 0) (v := .int .i64 0) rfl rfl (by rfl) (by intro x hx; go_simp; (first | done | exact rfl)) ?_
  simp only [List.set_cons_succ, List.set_cons_zero]
  refine lin_done ?_
  intro W2 hx
  replace HS := hid hx
  clear hx
  -- region 3
  go_upto_region 3 with fail
  refine lin_begin (St w []) rfl HS.out ?_
  refine lin_val (i := 0) (v := .int .i64 0) rfl rfl (by rfl) (by intro x hx; go_simp; (first | done | exact rfl)) ?_
  simp only [List.set_cons_succ, List.set_cons_zero]
  refine lin_done ?_
  intro W3 hx
  replace HS := hid hx
  clear hx
  go_wp2
  refine loop_up 64 (fun k a W => Hid (∃ u1_15 u1_16 u1_17 u1_18 u1_19 u1_20 u1_21 u1_22 u1_23 u1_24 u1_25 u1_26 : Value, a = Act.mk [.int .u64 (tn (x0)), .int .i64 (ti (x1)), undef, undef, .bool false, .int .i64 (ti ((decl_Bloom x0 x1).1)), .int .u64 (tn ((decl_Bloom x0 x1).2)), .int .i64 ((cntB (decl_Bloom x0 x1).2 k : Nat) : Int), .int .i64 ((k : Nat) : Int), .tuple #[.int .i64 (ti ((decl_Bloom x0 x1).1)), .int .u64 (tn ((decl_Bloom x0 x1).2))], .int .u64 (tn (x0)), .int .i64 (ti (x1)), .tuple #[.int .i64 (ti ((decl_Bloom x0 x1).1)), .int .u64 (tn ((decl_Bloom x0 x1).2))], .int .i64 (ti ((decl_Bloom x0 x1).1)), .int .u64 (tn ((decl_Bloom x0 x1).2)), u1_15, u1_16, u1_17, u1_18, u1_19, u1_20, u1_21, u1_22, u1_23, u1_24, u1_25, u1_26, undef, undef, undef, undef, undef, undef, undef, undef, undef, undef, undef, undef, undef, undef, undef, undef, undef, undef, undef, undef, undef, undef, undef, undef, undef, undef].toArray [] ∧ St w [] W)) (hid ⟨(undef), (undef), (undef), (undef), (undef), (undef), (undef), (undef), (undef), (undef), (undef), (undef), rfl, HS.out⟩) (fun r1 a W hr hR => ?_)
  obtain ⟨u1_15, u1_16, u1_17, u1_18, u1_19, u1_20, u1_21, u1_22, u1_23, u1_24, u1_25, u1_26, rfl, hS⟩ := hR.out
  replace HS := hid hS
  clear hS hR
  by_cases hlt1 : r1 < 64
  · -- round
    have hcl := cnt_le (decl_Bloom x0 x1).2 r1
    -- region 4
    go_upto_region 4 with fail
    refine lin_begin (St w []) rfl HS.out ?_
    refine lin_val (i := 0) (v := .int .i64 ((r1 : Nat) : Int)) rfl rfl (by rfl) (by intro x hx; go_simp; (first | done | exact rfl)) ?_
    simp only [List.set_cons_succ, List.set_cons_zero]
    refine lin_val (i := 1) (v := .bool true) rfl rfl (by rfl) (by intro x hx; go_simp; (first | done | omega | (simp; omega))) ?_
    simp only [List.set_cons_succ, List.set_cons_zero]
    refine lin_done ?_
    intro W4 hx
    replace HS := hid hx
    clear hx
    -- region 6
    go_upto_region 6 with fail
    refine lin_begin (St w []) rfl HS.out ?_
    refine lin_val (i := 0) (v := .int .u64 (tn ((decl_Bloom x0 x1).2))) rfl rfl (by rfl) (by intro x hx; go_simp; (first | done | exact rfl)) ?_
    simp only [List.set_cons_succ, List.set_cons_zero]
    refine lin_val (i := 1) (v := .int .i64 ((r1 : Nat) : Int)) rfl rfl (by rfl) (by intro x hx; go_simp; (first | done | exact rfl)) ?_
    simp only [List.set_cons_succ, List.set_cons_zero]
    refine lin_val (i := 2) (v := .int .u64 (tn (BitVec.ofNat 64 r1))) rfl rfl (by rfl) (by intro x hx; go_simp; (first | done | exact toU r1 | exact congrArg _ (toU r1) | (rw [toU r1]; done) | (rw [toU r1]; rfl))) ?_
    simp only [List.set_cons_succ, List.set_cons_zero]
    refine lin_val (i := 3) (v := .int .u64 (tn (((decl_Bloom x0 x1).2) >>> (BitVec.ofNat 64 r1).toNat))) rfl rfl (by rfl) (by intro x hx; have hy := tn_lo (BitVec.ofNat 64 r1); go_simp; (first | done | exact shrUU ((decl_Bloom x0 x1).2) (BitVec.ofNat 64 r1) hy | exact congrArg _ (shrUU ((decl_Bloom x0 x1).2) (BitVec.ofNat 64 r1) hy) | (rw [shrUU ((decl_Bloom x0 x1).2) (BitVec.ofNat 64 r1) hy]; done) | (rw [shrUU ((decl_Bloom x0 x1).2) (BitVec.ofNat 64 r1) hy]; rfl))) ?_
    simp only [List.set_cons_succ, List.set_cons_zero]
    refine lin_val (i := 4) (v := .int .u64 (tn ((((decl_Bloom x0 x1).2) >>> (BitVec.ofNat 64 r1).toNat) % 2#64))) rfl rfl (by rfl) (by intro x hx; go_simp; (first | done | exact remUT (((decl_Bloom x0 x1).2) >>> (BitVec.ofNat 64 r1).toNat) 2#64 | exact congrArg _ (remUT (((decl_Bloom x0 x1).2) >>> (BitVec.ofNat 64 r1).toNat) 2#64) | (rw [remUT (((decl_Bloom x0 x1).2) >>> (BitVec.ofNat 64 r1).toNat) 2#64]; done) | (rw [remUT (((decl_Bloom x0 x1).2) >>> (BitVec.ofNat 64 r1).toNat) 2#64]; rfl))) ?_
    simp only [List.set_cons_succ, List.set_cons_zero]
    refine lin_val (i := 5) (v := .bool ((decl_Bloom x0 x1).2.getLsbD r1)) rfl rfl (by rfl) (by intro x hx; rw [← show ((((((decl_Bloom x0 x1).2) >>> (BitVec.ofNat 64 r1).toNat) % 2#64) == 1#64)) = ((decl_Bloom x0 x1).2.getLsbD r1) from bit_at _ _ (by omega)]; go_simp; (first | done | exact eqUT ((((decl_Bloom x0 x1).2) >>> (BitVec.ofNat 64 r1).toNat) % 2#64) 1#64 | exact congrArg _ (eqUT ((((decl_Bloom x0 x1).2) >>> (BitVec.ofNat 64 r1).toNat) % 2#64) 1#64) | (rw [eqUT ((((decl_Bloom x0 x1).2) >>> (BitVec.ofNat 64 r1).toNat) % 2#64) 1#64]; done) | (rw [eqUT ((((decl_Bloom x0 x1).2) >>> (BitVec.ofNat 64 r1).toNat) % 2#64) 1#64]; rfl))) ?_
    simp only [List.set_cons_succ, List.set_cons_zero]
    refine lin_done ?_
    intro W5 hx
    replace HS := hid hx
    clear hx
    cases h1 : ((decl_Bloom x0 x1).2.getLsbD r1)
    · replace h1 := hid h1
      -- region 5
      go_upto_region 5 with fail
      refine lin_begin (St w []) rfl HS.out ?_
      refine lin_val (i := 0) (v := .int .i64 ((r1 : Nat) : Int)) rfl rfl (by rfl) (by intro x hx; go_simp; (first | done | exact rfl)) ?_
      simp only [List.set_cons_succ, List.set_cons_zero]
      refine lin_val (i := 1) (v := .int .i64 ((r1 + 1 : Nat) : Int)) rfl rfl (by rfl) (by intro x hx; go_simp; (first | done | exact addN r1 1 (by omega) | exact congrArg _ (addN r1 1 (by omega)) | (rw [addN r1 1 (by omega)]; done) | (rw [addN r1 1 (by omega)]; rfl))) ?_
      simp only [List.set_cons_succ, List.set_cons_zero]
      refine lin_val (i := 2) (v := .int .i64 ((r1 + 1 : Nat) : Int)) rfl rfl (by rfl) (by intro x hx; go_simp; (first | done | exact rfl)) ?_
      simp only [List.set_cons_succ, List.set_cons_zero]
      refine lin_done ?_
      intro W6 hx
      replace HS := hid hx
      clear hx
      go_wp2
      rw [cnt_f (B := (decl_Bloom x0 x1).2) (k := r1) h1.out]
      exact ⟨hlt1, hid ⟨_, _, _, _, _, _, _, _, _, _, _, _, rfl, HS.out⟩⟩
    · replace h1 := hid h1
      -- region 7
      go_upto_region 7 with fail
      refine lin_begin (St w []) rfl HS.out ?_
      refine lin_val (i := 0) (v := .int .i64 ((cntB (decl_Bloom x0 x1).2 r1 : Nat) : Int)) rfl rfl (by rfl) (by intro x hx; go_simp; (first | done | exact rfl)) ?_
      simp only [List.set_cons_succ, List.set_cons_zero]
      refine lin_val (i := 1) (v := .int .i64 (((cntB (decl_Bloom x0 x1).2 r1) + 1 : Nat) : Int)) rfl rfl (by rfl) (by intro x hx; go_simp; (first | done | exact addN (cntB (decl_Bloom x0 x1).2 r1) 1 (by omega) | exact congrArg _ (addN (cntB (decl_Bloom x0 x1).2 r1) 1 (by omega)) | (rw [addN (cntB (decl_Bloom x0 x1).2 r1) 1 (by omega)]; done) | (rw [addN (cntB (decl_Bloom x0 x1).2 r1) 1 (by omega)]; rfl))) ?_
      simp only [List.set_cons_succ, List.set_cons_zero]
      refine lin_val (i := 2) (v := .int .i64 (((cntB (decl_Bloom x0 x1).2 r1) + 1 : Nat) : Int)) rfl rfl (by rfl) (by intro x hx; go_simp; (first | done | exact rfl)) ?_
      simp only [List.set_cons_succ, List.set_cons_zero]
      refine lin_done ?_
      intro W6 hx
      replace HS := hid hx
      clear hx
      -- region 5
      go_upto_region 5 with fail
      refine lin_begin (St w []) rfl HS.out ?_
      refine lin_val (i := 0) (v := .int .i64 ((r1 : Nat) : Int)) rfl rfl (by rfl) (by intro x hx; go_simp; (first | done | exact rfl)) ?_
      simp only [List.set_cons_succ, List.set_cons_zero]
      refine lin_val (i := 1) (v := .int .i64 ((r1 + 1 : Nat) : Int)) rfl rfl (by rfl) (by intro x hx; go_simp; (first | done | exact addN r1 1 (by omega) | exact congrArg _ (addN r1 1 (by omega)) | (rw [addN r1 1 (by omega)]; done) | (rw [addN r1 1 (by omega)]; rfl))) ?_
      simp only [List.set_cons_succ, List.set_cons_zero]
      refine lin_val (i := 2) (v := .int .i64 ((r1 + 1 : Nat) : Int)) rfl rfl (by rfl) (by intro x hx; go_simp; (first | done | exact rfl)) ?_
      simp only [List.set_cons_succ, List.set_cons_zero]
      refine lin_done ?_
      intro W7 hx
      replace HS := hid hx
      clear hx
      go_wp2
      rw [cnt_t (B := (decl_Bloom x0 x1).2) (k := r1) h1.out]
      exact ⟨hlt1, hid ⟨_, _, _, _, _, _, _, _, _, _, _, _, rfl, HS.out⟩⟩
  · have hN1 := hid (show r1 = 64 by omega)
    -- region 4
    go_upto_region 4 with fail
    refine lin_begin (St w []) rfl HS.out ?_
    refine lin_val (i := 0) (v := .int .i64 ((r1 : Nat) : Int)) rfl rfl (by rfl) (by intro x hx; go_simp; (first | done | exact rfl)) ?_
    simp only [List.set_cons_succ, List.set_cons_zero]
    refine lin_val (i := 1) (v := .bool false) rfl rfl (by rfl) (by intro x hx; go_simp; (first | done | omega | (simp; omega))) ?_
    simp only [List.set_cons_succ, List.set_cons_zero]
    refine lin_done ?_
    intro W4 hx
    replace HS := hid hx
    clear hx
    -- region 8
    go_upto_region 8 with fail
    refine lin_begin (St w []) rfl HS.out ?_
    refine lin_val (i := 0) (v := .int .i64 ((cntB (decl_Bloom x0 x1).2 r1 : Nat) : Int)) rfl rfl (by rfl) (by intro x hx; go_simp; (first | done | exact rfl)) ?_
    simp only [List.set_cons_succ, List.set_cons_zero]
    refine lin_val (i := 1) (v := .bool true) rfl rfl (by rfl) (by intro x hx; go_simp; (first | done | (first | (have hc := of_decide_eq_true (bits_lo x0 x1 hN1.out); omega) | exact bits_lo x0 x1 hN1.out | exact eq_of_beq (bits_lo x0 x1 hN1.out) | exact congrArg _ (bits_lo x0 x1 hN1.out) | (rw [bits_lo x0 x1 hN1.out]; done) | ((first | rfl | exact decide_eq_decide.2 (by omega) | omega | (trace_state; sorry)); rw [bits_lo x0 x1 hN1.out]) | exact congrArg tn (eq_of_beq (bits_lo x0 x1 hN1.out)) | exact congrArg ti (eq_of_beq (bits_lo x0 x1 hN1.out)) | exact congrArg tn (eq_of_bne (bits_lo x0 x1 hN1.out)) | simpa using (bits_lo x0 x1 hN1.out)))) ?_
    simp only [List.set_cons_succ, List.set_cons_zero]
    refine lin_val (i := 2) (v := .bool true) rfl rfl (by rfl) (by intro x hx; go_simp; (first | done | exact rfl)) ?_
    simp only [List.set_cons_succ, List.set_cons_zero]
    refine lin_val (i := 3) (v := .int .i64 ((cntB (decl_Bloom x0 x1).2 r1 : Nat) : Int)) rfl rfl (by rfl) (by intro x hx; go_simp; (first | done | exact rfl)) ?_
    simp only [List.set_cons_succ, List.set_cons_zero]
    refine lin_val (i := 4) (v := .bool true) rfl rfl (by rfl) (by intro x hx; go_simp; (first | done | (first | (have hc := of_decide_eq_true (bits_hi x0 x1 hN1.out); omega) | exact bits_hi x0 x1 hN1.out | exact eq_of_beq (bits_hi x0 x1 hN1.out) | exact congrArg _ (bits_hi x0 x1 hN1.out) | (rw [bits_hi x0 x1 hN1.out]; done) | ((first | rfl | exact decide_eq_decide.2 (by omega) | omega | (trace_state; sorry)); rw [bits_hi x0 x1 hN1.out]) | exact congrArg tn (eq_of_beq (bits_hi x0 x1 hN1.out)) | exact congrArg ti (eq_of_beq (bits_hi x0 x1 hN1.out)) | exact congrArg tn (eq_of_bne (bits_hi x0 x1 hN1.out)) | simpa using (bits_hi x0 x1 hN1.out)))) ?_
    simp only [List.set_cons_succ, List.set_cons_zero]
    refine lin_val (i := 5) (v := .bool true) rfl rfl (by rfl) (by intro x hx; go_simp; (first | done | exact rfl)) ?_
    simp only [List.set_cons_succ, List.set_cons_zero]
    refine lin_val (i := 6) (v := .bool true) rfl rfl (by rfl) (by intro x hx; go_simp; (first | done | exact rfl)) ?_
    simp only [List.set_cons_succ, List.set_cons_zero]
    refine lin_val (i := 7) (v := .int .i64 (ti ((decl_Bloom x0 x1).1))) rfl rfl (by rfl) (by intro x hx; go_simp; (first | done | exact rfl)) ?_
    simp only [List.set_cons_succ, List.set_cons_zero]
    refine lin_val (i := 8) (v := .bool true) rfl rfl (by rfl) (by intro x hx; go_simp; (first | done | (first | exact of_decide_eq_true (at_lo x0 x1) | exact at_lo x0 x1 | exact eq_of_beq (at_lo x0 x1) | exact congrArg _ (at_lo x0 x1) | (rw [at_lo x0 x1]; done) | ((first | rfl | exact geIT ((decl_Bloom x0 x1).1) 0#64 | exact congrArg _ (geIT ((decl_Bloom x0 x1).1) 0#64) | (rw [geIT ((decl_Bloom x0 x1).1) 0#64]; done) | (rw [geIT ((decl_Bloom x0 x1).1) 0#64]; rfl)); rw [at_lo x0 x1]) | exact congrArg tn (eq_of_beq (at_lo x0 x1)) | exact congrArg ti (eq_of_beq (at_lo x0 x1)) | exact congrArg tn (eq_of_bne (at_lo x0 x1)) | simpa using (at_lo x0 x1)))) ?_
    simp only [List.set_cons_succ, List.set_cons_zero]
    refine lin_val (i := 9) (v := .bool true) rfl rfl (by rfl) (by intro x hx; go_simp; (first | done | exact rfl)) ?_
    simp only [List.set_cons_succ, List.set_cons_zero]
    refine lin_val (i := 10) (v := .bool true) rfl rfl (by rfl) (by intro x hx; go_simp; (first | done | exact rfl)) ?_
    simp only [List.set_cons_succ, List.set_cons_zero]
    refine lin_val (i := 11) (v := .int .i64 (ti ((decl_Bloom x0 x1).1))) rfl rfl (by rfl) (by intro x hx; go_simp; (first | done | exact rfl)) ?_
    simp only [List.set_cons_succ, List.set_cons_zero]
    refine lin_val (i := 12) (v := .int .i64 (ti (x1))) rfl rfl (by rfl) (by intro x hx; go_simp; (first | done | exact rfl)) ?_
    simp only [List.set_cons_succ, List.set_cons_zero]
    refine lin_val (i := 13) (v := .bool true) rfl rfl (by rfl) (by intro x hx; go_simp; (first | done | (first | exact of_decide_eq_true (at_hi Hhn.out) | exact at_hi Hhn.out | exact eq_of_beq (at_hi Hhn.out) | exact congrArg _ (at_hi Hhn.out) | (rw [at_hi Hhn.out]; done) | ((first | rfl | exact ltIT ((decl_Bloom x0 x1).1) x1 | exact congrArg _ (ltIT ((decl_Bloom x0 x1).1) x1) | (rw [ltIT ((decl_Bloom x0 x1).1) x1]; done) | (rw [ltIT ((decl_Bloom x0 x1).1) x1]; rfl)); rw [at_hi Hhn.out]) | exact congrArg tn (eq_of_beq (at_hi Hhn.out)) | exact congrArg ti (eq_of_beq (at_hi Hhn.out)) | exact congrArg tn (eq_of_bne (at_hi Hhn.out)) | simpa using (at_hi Hhn.out)))) ?_
    simp only [List.set_cons_succ, List.set_cons_zero]
    refine lin_val (i := 14) (v := .bool true) rfl rfl (by rfl) (by intro x hx; go_simp; (first | done | exact rfl)) ?_
    simp only [List.set_cons_succ, List.set_cons_zero]
    refine lin_no (i := 15) rfl rfl (by kernel_rfl) ?_
    simp only [List.set_cons_succ, List.set_cons_zero]
    refine lin_no (i := 16) rfl rfl (by kernel_rfl) ?_
    simp only [List.set_cons_succ, List.set_cons_zero]
    refine lin_no (i := 17) rfl rfl (by kernel_rfl) ?_
    simp only [List.set_cons_succ, List.set_cons_zero]
    refine lin_no (i := 18) rfl rfl (by kernel_rfl) ?_
    simp only [List.set_cons_succ, List.set_cons_zero]
    refine lin_no (i := 19) rfl rfl (by kernel_rfl) ?_
    simp only [List.set_cons_succ, List.set_cons_zero]
    refine lin_no (i := 20) rfl rfl (by kernel_rfl) ?_
    simp only [List.set_cons_succ, List.set_cons_zero]
    refine lin_val (i := 21) (v := .bool true) rfl rfl (by rfl) (by intro x hx; go_simp; (first | done | exact rfl)) ?_
    simp only [List.set_cons_succ, List.set_cons_zero]
    refine lin_val (i := 22) (v := .bool true) rfl rfl (by rfl) (by intro x hx; go_simp; (first | done | exact rfl)) ?_
    simp only [List.set_cons_succ, List.set_cons_zero]
    refine lin_val (i := 23) (v := .bool true) rfl rfl (by rfl) (by intro x hx; go_simp; (first | done | exact rfl)) ?_
    simp only [List.set_cons_succ, List.set_cons_zero]
    refine lin_call (i := 24) (f := 8) (args := #[]) (v := .bool true) (st_ups _ _) rfl rfl (by rfl) (fun x hx => by kernel_rfl) (by intro x hx; exact law_works_any _ (HT.out.up hx.below)) ?_
    simp only [List.set_cons_succ, List.set_cons_zero]
    refine lin_val (i := 25) (v := .bool true) rfl rfl (by rfl) (by intro x hx; go_simp; (first | done | exact rfl)) ?_
    simp only [List.set_cons_succ, List.set_cons_zero]
    refine lin_val (i := 26) (v := .bool true) rfl rfl (by rfl) (by intro x hx; go_simp; (first | done | exact rfl)) ?_
    simp only [List.set_cons_succ, List.set_cons_zero]
    refine lin_done ?_
    intro W5 hx
    replace HS := hid hx
    clear hx
    go_wp2
    exact bodyPost_ret (v := .bool true) (by simp [results, Tryd.results6, go_sem]) rfl ⟨rfl, HS.out.below⟩
set_option maxRecDepth 100000 in
set_option maxHeartbeats 4000000 in
theorem bits_2 (x0 : BitVec 64) (x1 : BitVec 64)   (hn : ltI x1 1#64 = true) (w : World) (hT : Tn.Tab w) :
    Calls Tryd.prog 6 #[.int .u64 (tn (x0)), .int .i64 (ti (x1))] w fun e w' => e = .returned (.bool true) ∧ Below w.heap.size w w' := by
  have HT := hid hT
  clear hT
  have Hhn := hid hn
  clear hn
  go_enter Tryd.func6, Tryd.ntmps6
  have HS := hid (st_nil w)
  -- region 1
  go_upto_region 1 with fail
  refine lin_begin (St w []) rfl HS.out ?_
  refine lin_val (i := 0) (v := .int .u64 (tn (x0))) rfl rfl (by rfl) (by intro x hx; go_simp; (first | done | exact rfl)) ?_
  simp only [List.set_cons_succ, List.set_cons_zero]
  refine lin_val (i := 1) (v := .int .i64 (ti (x1))) rfl rfl (by rfl) (by intro x hx; go_simp; (first | done | exact rfl)) ?_
  simp only [List.set_cons_succ, List.set_cons_zero]
  refine lin_call (i := 2) (f := 13) (args := #[.int .u64 (tn (x0)), .int .i64 (ti (x1))]) (v := .tuple #[.int .i64 (ti ((decl_Bloom x0 x1).1)), .int .u64 (tn ((decl_Bloom x0 x1).2))]) (st_ups _ _) rfl rfl (by rfl) (fun x hx => by kernel_rfl) (by intro x hx; exact decl_Bloom_any x0 x1 _) ?_
  simp only [List.set_cons_succ, List.set_cons_zero]
  refine lin_val (i := 3) (v := .tuple #[.int .i64 (ti ((decl_Bloom x0 x1).1)), .int .u64 (tn ((decl_Bloom x0 x1).2))]) rfl rfl (by rfl) (by intro x hx; go_simp; (first | done | exact rfl)) ?_
  simp only [List.set_cons_succ, List.set_cons_zero]
  refine lin_val (i := 4) (v := .int .i64 (ti ((decl_Bloom x0 x1).1))) rfl rfl (by rfl) (by intro x hx; go_simp; (first | done | exact rfl)) ?_
  simp only [List.set_cons_succ, List.set_cons_zero]
  refine lin_val (i := 5) (v := .int .u64 (tn ((decl_Bloom x0 x1).2))) rfl rfl (by rfl) (by intro x hx; go_simp; (first | done | exact rfl)) ?_
  simp only [List.set_cons_succ, List.set_cons_zero]
  refine lin_val (i := 6) (v := .int .i64 (ti ((decl_Bloom x0 x1).1))) rfl rfl (by rfl) (by intro x hx; go_simp; (first | done | exact rfl)) ?_
  simp only [List.set_cons_succ, List.set_cons_zero]
  refine lin_val (i := 7) (v := .int .u64 (tn ((decl_Bloom x0 x1).2))) rfl rfl (by rfl) (by intro x hx; go_simp; (first | done | exact rfl)) ?_
  simp only [List.set_cons_succ, List.set_cons_zero]
  refine lin_done ?_
  intro W1 hx
  replace HS := hid hx
  clear hx
  -- region 2
  go_upto_region 2 with fail
  refine lin_begin (St w []) rfl HS.out ?_
  refine lin_val (i := 0) (v := .int .i64 0) rfl rfl (by rfl) (by intro x hx; go_simp; (first | done | exact rfl)) ?_
  simp only [List.set_cons_succ, List.set_cons_zero]
  refine lin_done ?_
  intro W2 hx
  replace HS := hid hx
  clear hx
  -- region 3
  go_upto_region 3 with fail
  refine lin_begin (St w []) rfl HS.out ?_
  refine lin_val (i := 0) (v := .int .i64 0) rfl rfl (by rfl) (by intro x hx; go_simp; (first | done | exact rfl)) ?_
  simp only [List.set_cons_succ, List.set_cons_zero]
  refine lin_done ?_
  intro W3 hx
  replace HS := hid hx
  clear hx
  go_wp2
  refine loop_up 64 (fun k a W => Hid (∃ u1_15 u1_16 u1_17 u1_18 u1_19 u1_20 u1_21 u1_22 u1_23 u1_24 u1_25 u1_26 : Value, a = Act.mk [.int .u64 (tn (x0)), .int .i64 (ti (x1)), undef, undef, .bool false, .int .i64 (ti ((decl_Bloom x0 x1).1)), .int .u64 (tn ((decl_Bloom x0 x1).2)), .int .i64 ((cntB (decl_Bloom x0 x1).2 k : Nat) : Int), .int .i64 ((k : Nat) : Int), .tuple #[.int .i64 (ti ((decl_Bloom x0 x1).1)), .int .u64 (tn ((decl_Bloom x0 x1).2))], .int .u64 (tn (x0)), .int .i64 (ti (x1)), .tuple #[.int .i64 (ti ((decl_Bloom x0 x1).1)), .int .u64 (tn ((decl_Bloom x0 x1).2))], .int .i64 (ti ((decl_Bloom x0 x1).1)), .int .u64 (tn ((decl_Bloom x0 x1).2)), u1_15, u1_16, u1_17, u1_18, u1_19, u1_20, u1_21, u1_22, u1_23, u1_24, u1_25, u1_26, undef, undef, undef, undef, undef, undef, undef, undef, undef, undef, undef, undef, undef, undef, undef, undef, undef, undef, undef, undef, undef, undef, undef, undef, undef, undef].toArray [] ∧ St w [] W)) (hid ⟨(undef), (undef), (undef), (undef), (undef), (undef), (undef), (undef), (undef), (undef), (undef), (undef), rfl, HS.out⟩) (fun r1 a W hr hR => ?_)
  obtain ⟨u1_15, u1_16, u1_17, u1_18, u1_19, u1_20, u1_21, u1_22, u1_23, u1_24, u1_25, u1_26, rfl, hS⟩ := hR.out
  replace HS := hid hS
  clear hS hR
  by_cases hlt1 : r1 < 64
  · -- round
    have hcl := cnt_le (decl_Bloom x0 x1).2 r1
    -- region 4
    go_upto_region 4 with fail
    refine lin_begin (St w []) rfl HS.out ?_
    refine lin_val (i := 0) (v := .int .i64 ((r1 : Nat) : Int)) rfl rfl (by rfl) (by intro x hx; go_simp; (first | done | exact rfl)) ?_
    simp only [List.set_cons_succ, List.set_cons_zero]
    refine lin_val (i := 1) (v := .bool true) rfl rfl (by rfl) (by intro x hx; go_simp; (first | done | omega | (simp; omega))) ?_
    simp only [List.set_cons_succ, List.set_cons_zero]
    refine lin_done ?_
    intro W4 hx
    replace HS := hid hx
    clear hx
    -- region 6
    go_upto_region 6 with fail
    refine lin_begin (St w []) rfl HS.out ?_
    refine lin_val (i := 0) (v := .int .u64 (tn ((decl_Bloom x0 x1).2))) rfl rfl (by rfl) (by intro x hx; go_simp; (first | done | exact rfl)) ?_
    simp only [List.set_cons_succ, List.set_cons_zero]
    refine lin_val (i := 1) (v := .int .i64 ((r1 : Nat) : Int)) rfl rfl (by rfl) (by intro x hx; go_simp; (first | done | exact rfl)) ?_
    simp only [List.set_cons_succ, List.set_cons_zero]
    refine lin_val (i := 2) (v := .int .u64 (tn (BitVec.ofNat 64 r1))) rfl rfl (by rfl) (by intro x hx; go_simp; (first | done | exact toU r1 | exact congrArg _ (toU r1) | (rw [toU r1]; done) | (rw [toU r1]; rfl))) ?_
    simp only [List.set_cons_succ, List.set_cons_zero]
    refine lin_val (i := 3) (v := .int .u64 (tn (((decl_Bloom x0 x1).2) >>> (BitVec.ofNat 64 r1).toNat))) rfl rfl (by rfl) (by intro x hx; have hy := tn_lo (BitVec.ofNat 64 r1); go_simp; (first | done | exact shrUU ((decl_Bloom x0 x1).2) (BitVec.ofNat 64 r1) hy | exact congrArg _ (shrUU ((decl_Bloom x0 x1).2) (BitVec.ofNat 64 r1) hy) | (rw [shrUU ((decl_Bloom x0 x1).2) (BitVec.ofNat 64 r1) hy]; done) | (rw [shrUU ((decl_Bloom x0 x1).2) (BitVec.ofNat 64 r1) hy]; rfl))) ?_
    simp only [List.set_cons_succ, List.set_cons_zero]
    refine lin_val (i := 4) (v := .int .u64 (tn ((((decl_Bloom x0 x1).2) >>> (BitVec.ofNat 64 r1).toNat) % 2#64))) rfl rfl (by rfl) (by intro x hx; go_simp; (first | done | exact remUT (((decl_Bloom x0 x1).2) >>> (BitVec.ofNat 64 r1).toNat) 2#64 | exact congrArg _ (remUT (((decl_Bloom x0 x1).2) >>> (BitVec.ofNat 64 r1).toNat) 2#64) | (rw [remUT (((decl_Bloom x0 x1).2) >>> (BitVec.ofNat 64 r1).toNat) 2#64]; done) | (rw [remUT (((decl_Bloom x0 x1).2) >>> (BitVec.ofNat 64 r1).toNat) 2#64]; rfl))) ?_
    simp only [List.set_cons_succ, List.set_cons_zero]
    refine lin_val (i := 5) (v := .bool ((decl_Bloom x0 x1).2.getLsbD r1)) rfl rfl (by rfl) (by intro x hx; rw [← show ((((((decl_Bloom x0 x1).2) >>> (BitVec.ofNat 64 r1).toNat) % 2#64) == 1#64)) = ((decl_Bloom x0 x1).2.getLsbD r1) from bit_at _ _ (by omega)]; go_simp; (first | done | exact eqUT ((((decl_Bloom x0 x1).2) >>> (BitVec.ofNat 64 r1).toNat) % 2#64) 1#64 | exact congrArg _ (eqUT ((((decl_Bloom x0 x1).2) >>> (BitVec.ofNat 64 r1).toNat) % 2#64) 1#64) | (rw [eqUT ((((decl_Bloom x0 x1).2) >>> (BitVec.ofNat 64 r1).toNat) % 2#64) 1#64]; done) | (rw [eqUT ((((decl_Bloom x0 x1).2) >>> (BitVec.ofNat 64 r1).toNat) % 2#64) 1#64]; rfl))) ?_
    simp only [List.set_cons_succ, List.set_cons_zero]
    refine lin_done ?_
    intro W5 hx
    replace HS := hid hx
    clear hx
    cases h1 : ((decl_Bloom x0 x1).2.getLsbD r1)
    · replace h1 := hid h1
      -- region 5
      go_upto_region 5 with fail
      refine lin_begin (St w []) rfl HS.out ?_
      refine lin_val (i := 0) (v := .int .i64 ((r1 : Nat) : Int)) rfl rfl (by rfl) (by intro x hx; go_simp; (first | done | exact rfl)) ?_
      simp only [List.set_cons_succ, List.set_cons_zero]
      refine lin_val (i := 1) (v := .int .i64 ((r1 + 1 : Nat) : Int)) rfl rfl (by rfl) (by intro x hx; go_simp; (first | done | exact addN r1 1 (by omega) | exact congrArg _ (addN r1 1 (by omega)) | (rw [addN r1 1 (by omega)]; done) | (rw [addN r1 1 (by omega)]; rfl))) ?_
      simp only [List.set_cons_succ, List.set_cons_zero]
      refine lin_val (i := 2) (v := .int .i64 ((r1 + 1 : Nat) : Int)) rfl rfl (by rfl) (by intro x hx; go_simp; (first | done | exact rfl)) ?_
      simp only [List.set_cons_succ, List.set_cons_zero]
      refine lin_done ?_
      intro W6 hx
      replace HS := hid hx
      clear hx
      go_wp2
      rw [cnt_f (B := (decl_Bloom x0 x1).2) (k := r1) h1.out]
      exact ⟨hlt1, hid ⟨_, _, _, _, _, _, _, _, _, _, _, _, rfl, HS.out⟩⟩
    · replace h1 := hid h1
      -- region 7
      go_upto_region 7 with fail
      refine lin_begin (St w []) rfl HS.out ?_
      refine lin_val (i := 0) (v := .int .i64 ((cntB (decl_Bloom x0 x1).2 r1 : Nat) : Int)) rfl rfl (by rfl) (by intro x hx; go_simp; (first | done | exact rfl)) ?_
      simp only [List.set_cons_succ, List.set_cons_zero]
      refine lin_val (i := 1) (v := .int .i64 (((cntB (decl_Bloom x0 x1).2 r1) + 1 : Nat) : Int)) rfl rfl (by rfl) (by intro x hx; go_simp; (first | done | exact addN (cntB (decl_Bloom x0 x1).2 r1) 1 (by omega) | exact congrArg _ (addN (cntB (decl_Bloom x0 x1).2 r1) 1 (by omega)) | (rw [addN (cntB (decl_Bloom x0 x1).2 r1) 1 (by omega)]; done) | (rw [addN (cntB (decl_Bloom x0 x1).2 r1) 1 (by omega)]; rfl))) ?_
      simp only [List.set_cons_succ, List.set_cons_zero]
      refine lin_val (i := 2) (v := .int .i64 (((cntB (decl_Bloom x0 x1).2 r1) + 1 : Nat) : Int)) rfl rfl (by rfl) (by intro x hx; go_simp; (first | done | exact rfl)) ?_
      simp only [List.set_cons_succ, List.set_cons_zero]
      refine lin_done ?_
      intro W6 hx
      replace HS := hid hx
      clear hx
      -- region 5
      go_upto_region 5 with fail
      refine lin_begin (St w []) rfl HS.out ?_
      refine lin_val (i := 0) (v := .int .i64 ((r1 : Nat) : Int)) rfl rfl (by rfl) (by intro x hx; go_simp; (first | done | exact rfl)) ?_
      simp only [List.set_cons_succ, List.set_cons_zero]
      refine lin_val (i := 1) (v := .int .i64 ((r1 + 1 : Nat) : Int)) rfl rfl (by rfl) (by intro x hx; go_simp; (first | done | exact addN r1 1 (by omega) | exact congrArg _ (addN r1 1 (by omega)) | (rw [addN r1 1 (by omega)]; done) | (rw [addN r1 1 (by omega)]; rfl))) ?_
      simp only [List.set_cons_succ, List.set_cons_zero]
      refine lin_val (i := 2) (v := .int .i64 ((r1 + 1 : Nat) : Int)) rfl rfl (by rfl) (by intro x hx; go_simp; (first | done | exact rfl)) ?_
      simp only [List.set_cons_succ, List.set_cons_zero]
      refine lin_done ?_
      intro W7 hx
      replace HS := hid hx
      clear hx
      go_wp2
      rw [cnt_t (B := (decl_Bloom x0 x1).2) (k := r1) h1.out]
      exact ⟨hlt1, hid ⟨_, _, _, _, _, _, _, _, _, _, _, _, rfl, HS.out⟩⟩
  · have hN1 := hid (show r1 = 64 by omega)
    -- region 4
    go_upto_region 4 with fail
    refine lin_begin (St w []) rfl HS.out ?_
    refine lin_val (i := 0) (v := .int .i64 ((r1 : Nat) : Int)) rfl rfl (by rfl) (by intro x hx; go_simp; (first | done | exact rfl)) ?_
    simp only [List.set_cons_succ, List.set_cons_zero]
    refine lin_val (i := 1) (v := .bool false) rfl rfl (by rfl) (by intro x hx; go_simp; (first | done | omega | (simp; omega))) ?_
    simp only [List.set_cons_succ, List.set_cons_zero]
    refine lin_done ?_
    intro W4 hx
    replace HS := hid hx
    clear hx
    -- region 8
    go_upto_region 8 with fail
    refine lin_begin (St w []) rfl HS.out ?_
    refine lin_val (i := 0) (v := .int .i64 ((cntB (decl_Bloom x0 x1).2 r1 : Nat) : Int)) rfl rfl (by rfl) (by intro x hx; go_simp; (first | done | exact rfl)) ?_
    simp only [List.set_cons_succ, List.set_cons_zero]
    refine lin_val (i := 1) (v := .bool true) rfl rfl (by rfl) (by intro x hx; go_simp; (first | done | (first | (have hc := of_decide_eq_true (bits_lo x0 x1 hN1.out); omega) | exact bits_lo x0 x1 hN1.out | exact eq_of_beq (bits_lo x0 x1 hN1.out) | exact congrArg _ (bits_lo x0 x1 hN1.out) | (rw [bits_lo x0 x1 hN1.out]; done) | ((first | rfl | exact decide_eq_decide.2 (by omega) | omega | (trace_state; sorry)); rw [bits_lo x0 x1 hN1.out]) | exact congrArg tn (eq_of_beq (bits_lo x0 x1 hN1.out)) | exact congrArg ti (eq_of_beq (bits_lo x0 x1 hN1.out)) | exact congrArg tn (eq_of_bne (bits_lo x0 x1 hN1.out)) | simpa using (bits_lo x0 x1 hN1.out)))) ?_
    simp only [List.set_cons_succ, List.set_cons_zero]
    refine lin_val (i := 2) (v := .bool true) rfl rfl (by rfl) (by intro x hx; go_simp; (first | done | exact rfl)) ?_
    simp only [List.set_cons_succ, List.set_cons_zero]
    refine lin_val (i := 3) (v := .int .i64 ((cntB (decl_Bloom x0 x1).2 r1 : Nat) : Int)) rfl rfl (by rfl) (by intro x hx; go_simp; (first | done | exact rfl)) ?_
    simp only [List.set_cons_succ, List.set_cons_zero]
    refine lin_val (i := 4) (v := .bool true) rfl rfl (by rfl) (by intro x hx; go_simp; (first | done | (first | (have hc := of_decide_eq_true (bits_hi x0 x1 hN1.out); omega) | exact bits_hi x0 x1 hN1.out | exact eq_of_beq (bits_hi x0 x1 hN1.out) | exact congrArg _ (bits_hi x0 x1 hN1.out) | (rw [bits_hi x0 x1 hN1.out]; done) | ((first | rfl | exact decide_eq_decide.2 (by omega) | omega | (trace_state; sorry)); rw [bits_hi x0 x1 hN1.out]) | exact congrArg tn (eq_of_beq (bits_hi x0 x1 hN1.out)) | exact congrArg ti (eq_of_beq (bits_hi x0 x1 hN1.out)) | exact congrArg tn (eq_of_bne (bits_hi x0 x1 hN1.out)) | simpa using (bits_hi x0 x1 hN1.out)))) ?_
    simp only [List.set_cons_succ, List.set_cons_zero]
    refine lin_val (i := 5) (v := .bool true) rfl rfl (by rfl) (by intro x hx; go_simp; (first | done | exact rfl)) ?_
    simp only [List.set_cons_succ, List.set_cons_zero]
    refine lin_val (i := 6) (v := .bool true) rfl rfl (by rfl) (by intro x hx; go_simp; (first | done | exact rfl)) ?_
    simp only [List.set_cons_succ, List.set_cons_zero]
    refine lin_val (i := 7) (v := .int .i64 (ti ((decl_Bloom x0 x1).1))) rfl rfl (by rfl) (by intro x hx; go_simp; (first | done | exact rfl)) ?_
    simp only [List.set_cons_succ, List.set_cons_zero]
    refine lin_val (i := 8) (v := .bool true) rfl rfl (by rfl) (by intro x hx; go_simp; (first | done | (first | exact of_decide_eq_true (at_lo x0 x1) | exact at_lo x0 x1 | exact eq_of_beq (at_lo x0 x1) | exact congrArg _ (at_lo x0 x1) | (rw [at_lo x0 x1]; done) | ((first | rfl | exact geIT ((decl_Bloom x0 x1).1) 0#64 | exact congrArg _ (geIT ((decl_Bloom x0 x1).1) 0#64) | (rw [geIT ((decl_Bloom x0 x1).1) 0#64]; done) | (rw [geIT ((decl_Bloom x0 x1).1) 0#64]; rfl)); rw [at_lo x0 x1]) | exact congrArg tn (eq_of_beq (at_lo x0 x1)) | exact congrArg ti (eq_of_beq (at_lo x0 x1)) | exact congrArg tn (eq_of_bne (at_lo x0 x1)) | simpa using (at_lo x0 x1)))) ?_
    simp only [List.set_cons_succ, List.set_cons_zero]
    refine lin_val (i := 9) (v := .bool true) rfl rfl (by rfl) (by intro x hx; go_simp; (first | done | exact rfl)) ?_
    simp only [List.set_cons_succ, List.set_cons_zero]
    refine lin_val (i := 10) (v := .bool true) rfl rfl (by rfl) (by intro x hx; go_simp; (first | done | exact rfl)) ?_
    simp only [List.set_cons_succ, List.set_cons_zero]
    refine lin_val (i := 11) (v := .int .i64 (ti ((decl_Bloom x0 x1).1))) rfl rfl (by rfl) (by intro x hx; go_simp; (first | done | exact rfl)) ?_
    simp only [List.set_cons_succ, List.set_cons_zero]
    refine lin_val (i := 12) (v := .int .i64 (ti (x1))) rfl rfl (by rfl) (by intro x hx; go_simp; (first | done | exact rfl)) ?_
    simp only [List.set_cons_succ, List.set_cons_zero]
    refine lin_val (i := 13) (v := .bool false) rfl rfl (by rfl) (by intro x hx; go_simp; (first | done | (first | exact Int.not_lt.1 (of_decide_eq_false (at_no Hhn.out)) | exact at_no Hhn.out | exact eq_of_beq (at_no Hhn.out) | exact congrArg _ (at_no Hhn.out) | (rw [at_no Hhn.out]; done) | ((first | rfl | exact ltIT ((decl_Bloom x0 x1).1) x1 | exact congrArg _ (ltIT ((decl_Bloom x0 x1).1) x1) | (rw [ltIT ((decl_Bloom x0 x1).1) x1]; done) | (rw [ltIT ((decl_Bloom x0 x1).1) x1]; rfl)); rw [at_no Hhn.out]) | exact congrArg tn (eq_of_beq (at_no Hhn.out)) | exact congrArg ti (eq_of_beq (at_no Hhn.out)) | exact congrArg tn (eq_of_bne (at_no Hhn.out)) | simpa using (at_no Hhn.out)))) ?_
    simp only [List.set_cons_succ, List.set_cons_zero]
    refine lin_val (i := 14) (v := .bool false) rfl rfl (by rfl) (by intro x hx; go_simp; (first | done | exact rfl)) ?_
    simp only [List.set_cons_succ, List.set_cons_zero]
    refine lin_val (i := 15) (v := .int .i64 (ti (x1))) rfl rfl (by rfl) (by intro x hx; go_simp; (first | done | exact rfl)) ?_
    simp only [List.set_cons_succ, List.set_cons_zero]
    refine lin_val (i := 16) (v := .bool true) rfl rfl (by rfl) (by intro x hx; go_simp; (first | done | (first | exact of_decide_eq_true (Hhn.out) | exact Hhn.out | exact eq_of_beq (Hhn.out) | exact congrArg _ (Hhn.out) | (rw [Hhn.out]; done) | ((first | rfl | exact ltIT x1 1#64 | exact congrArg _ (ltIT x1 1#64) | (rw [ltIT x1 1#64]; done) | (rw [ltIT x1 1#64]; rfl)); rw [Hhn.out]) | exact congrArg tn (eq_of_beq (Hhn.out)) | exact congrArg ti (eq_of_beq (Hhn.out)) | exact congrArg tn (eq_of_bne (Hhn.out)) | simpa using (Hhn.out)))) ?_
    simp only [List.set_cons_succ, List.set_cons_zero]
    refine lin_val (i := 17) (v := .bool true) rfl rfl (by rfl) (by intro x hx; go_simp; (first | done | exact rfl)) ?_
    simp only [List.set_cons_succ, List.set_cons_zero]
    refine lin_val (i := 18) (v := .int .i64 (ti ((decl_Bloom x0 x1).1))) rfl rfl (by rfl) (by intro x hx; go_simp; (first | done | exact rfl)) ?_
    simp only [List.set_cons_succ, List.set_cons_zero]
    refine lin_val (i := 19) (v := .bool true) rfl rfl (by rfl) (by intro x hx; go_simp; (first | done | (first | exact at_is Hhn.out | exact eq_of_beq (at_is Hhn.out) | exact congrArg _ (at_is Hhn.out) | (rw [at_is Hhn.out]; done) | ((first | rfl | exact eqIT ((decl_Bloom x0 x1).1) 0#64 | exact congrArg _ (eqIT ((decl_Bloom x0 x1).1) 0#64) | (rw [eqIT ((decl_Bloom x0 x1).1) 0#64]; done) | (rw [eqIT ((decl_Bloom x0 x1).1) 0#64]; rfl)); rw [at_is Hhn.out]) | exact congrArg tn (eq_of_beq (at_is Hhn.out)) | exact congrArg ti (eq_of_beq (at_is Hhn.out)) | exact congrArg tn (eq_of_bne (at_is Hhn.out)) | simpa using (at_is Hhn.out)))) ?_
    simp only [List.set_cons_succ, List.set_cons_zero]
    refine lin_val (i := 20) (v := .bool true) rfl rfl (by rfl) (by intro x hx; go_simp; (first | done | exact rfl)) ?_
    simp only [List.set_cons_succ, List.set_cons_zero]
    refine lin_val (i := 21) (v := .bool true) rfl rfl (by rfl) (by intro x hx; go_simp; (first | done | exact rfl)) ?_
    simp only [List.set_cons_succ, List.set_cons_zero]
    refine lin_val (i := 22) (v := .bool true) rfl rfl (by rfl) (by intro x hx; go_simp; (first | done | exact rfl)) ?_
    simp only [List.set_cons_succ, List.set_cons_zero]
    refine lin_val (i := 23) (v := .bool true) rfl rfl (by rfl) (by intro x hx; go_simp; (first | done | exact rfl)) ?_
    simp only [List.set_cons_succ, List.set_cons_zero]
    refine lin_call (i := 24) (f := 8) (args := #[]) (v := .bool true) (st_ups _ _) rfl rfl (by rfl) (fun x hx => by kernel_rfl) (by intro x hx; exact law_works_any _ (HT.out.up hx.below)) ?_
    simp only [List.set_cons_succ, List.set_cons_zero]
    refine lin_val (i := 25) (v := .bool true) rfl rfl (by rfl) (by intro x hx; go_simp; (first | done | exact rfl)) ?_
    simp only [List.set_cons_succ, List.set_cons_zero]
    refine lin_val (i := 26) (v := .bool true) rfl rfl (by rfl) (by intro x hx; go_simp; (first | done | exact rfl)) ?_
    simp only [List.set_cons_succ, List.set_cons_zero]
    refine lin_done ?_
    intro W5 hx
    replace HS := hid hx
    clear hx
    go_wp2
    exact bodyPost_ret (v := .bool true) (by simp [results, Tryd.results6, go_sem]) rfl ⟨rfl, HS.out.below⟩
theorem declBits (x0 x1 : BitVec 64) (w : World) (hT : Tn.Tab w) :
    Calls Tryd.prog 6 #[.int .u64 (tn x0), .int .i64 (ti x1)] w fun e w' => e = .returned (.bool true) ∧ Below w.heap.size w w' := by
  cases h : ltI x1 1#64
  · exact bits_1 x0 x1 h w hT
  · exact bits_2 x0 x1 h w hT
end Go.Proofs.YtejcjjimhaokfaaDoor.Dcl
