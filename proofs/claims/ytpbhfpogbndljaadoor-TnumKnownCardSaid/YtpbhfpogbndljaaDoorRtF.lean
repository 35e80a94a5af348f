/-
  The document's Moved of tnums.
-/
import Derived.Deep.DeepCutAuto
import Derived.Test.YtpbhfpogbndljaaDoorRtE
namespace Go.Proofs.YtpbhfpogbndljaaDoor.Rt
open Go.RowKit Go.Proofs.YtpbhfpogbndljaaDoor.Num Go.Proofs.YtpbhfpogbndljaaDoor.Up
def fromI (up sg : Bool) (n i : Nat) : Option Nat := bif up then (if i < n then none else some (i - n)) else (if i + n > 63 then (bif sg then some 63 else none) else some (i + n))
def optB (d : Bool) (F : Nat → Bool) : Option Nat → Bool
  | none => d
  | some j => F j
def movB (up sg : Bool) (b : BB) (n : Nat) : BB := ⟨fun i => optB true b.Z (fromI up sg n i), fun i => optB false b.O (fromI up sg n i)⟩
theorem mov_rem (x : BitVec 64) : (ti x).tmod 64 = (if ti x < 0 then ((x % 64#64).toNat : Int) - (if (x % 64#64).toNat = 0 then 0 else 64) else ((x % 64#64).toNat : Int)) := by
  have h : ((x % 64#64).toNat : Int) = (x.toNat : Int) % 64 := by rw [BitVec.toNat_umod]; rfl
  have b0 := BitVec.le_toInt x
  have b1 := BitVec.toInt_lt (x := x)
  have e : ti x = if tn x < 9223372036854775808 then tn x else tn x - 18446744073709551616 := by
    unfold ti tn
    rw [BitVec.toInt_eq_toNat_cond]
    split <;> split <;> omega
  unfold tn at e
  have hk : (x % 64#64).toNat = x.toNat % 64 := by rw [BitVec.toNat_umod]; rfl
  by_cases h0 : 0 ≤ ti x
  · rw [Int.tmod_eq_emod_of_nonneg h0, if_neg (by omega), h]
    split at e <;> omega
  · rw [if_pos (by omega)]
    have e2 : (ti x).tmod 64 = -((-(ti x)) % 64) := by
      rw [show ti x = -(-(ti x)) by omega, Int.neg_tmod, Int.tmod_eq_emod_of_nonneg (by omega)]; omega
    rw [e2, h, hk]
    split at e
    · have := x.isLt; omega
    · split <;> omega
theorem mov_add {x : BitVec 64} {K : Nat} (hm : (ti x).tmod 64 = (if ti x < 0 then (K : Int) - (if K = 0 then 0 else 64) else (K : Int))) (hk : K < 64) (h : decide ((ti x).tmod 64 < 0) = true) : IntKind.i64.wrap ((ti x).tmod 64 + 64) = ((K : Nat) : Int) := by
  have h := of_decide_eq_true h
  rw [IntKind.wrap_i64]
  generalize (ti x).tmod 64 = m at *
  by_cases p : ti x < 0
  · rw [if_pos p] at hm
    by_cases q : K = 0
    · rw [if_pos q] at hm; omega
    · rw [if_neg q] at hm; omega
  · rw [if_neg p] at hm; omega
theorem mov_id {x : BitVec 64} {K : Nat} (hm : (ti x).tmod 64 = (if ti x < 0 then (K : Int) - (if K = 0 then 0 else 64) else (K : Int))) (hk : K < 64) (h : decide ((ti x).tmod 64 < 0) = false) : (ti x).tmod 64 = ((K : Nat) : Int) := by
  have h := of_decide_eq_false h
  generalize (ti x).tmod 64 = m at *
  by_cases p : ti x < 0
  · rw [if_pos p] at hm
    by_cases q : K = 0
    · rw [if_pos q] at hm; omega
    · rw [if_neg q] at hm; omega
  · rw [if_neg p] at hm; omega
theorem mod64' (x : BitVec 64) : (x % 64#64).toNat < 64 := by rw [BitVec.toNat_umod]; exact Nat.mod_lt _ (by decide)
theorem from_upno {sg : Bool} {K r : Nat} (h : decide (((r : Nat) : Int) - ((K : Nat) : Int) < 0) = true) : fromI true sg K r = none := by
  have h := of_decide_eq_true h
  unfold fromI
  rw [cond_t rfl, if_pos (by omega)]
theorem from_up {sg : Bool} {K r : Nat} (h : decide (((r : Nat) : Int) - ((K : Nat) : Int) < 0) = false) : fromI true sg K r = some (r - K) := by
  have h := of_decide_eq_false h
  unfold fromI
  rw [cond_t rfl, if_neg (by omega)]
theorem from_dn {sg : Bool} {K r : Nat} (h : decide (r + K > 63) = false) : fromI false sg K r = some (r + K) := by
  have h := of_decide_eq_false h
  unfold fromI
  rw [cond_f rfl, if_neg (by omega)]
theorem from_dnno {K r : Nat} (h : decide (r + K > 63) = true) : fromI false false K r = none := by
  have h := of_decide_eq_true h
  unfold fromI
  rw [cond_f rfl, if_pos (by omega)]
  rfl
theorem from_dnsg {K r : Nat} (h : decide (r + K > 63) = true) : fromI false true K r = some 63 := by
  have h := of_decide_eq_true h
  unfold fromI
  rw [cond_f rfl, if_pos (by omega)]
  rfl
theorem mov_zn {up sg : Bool} {b : BB} {K r : Nat} (h : fromI up sg K r = none) : true = (movB up sg b K).Z r := by unfold movB; simp only [h]; rfl
theorem mov_on {up sg : Bool} {b : BB} {K r : Nat} (h : fromI up sg K r = none) : (movB up sg b K).O r = false := by unfold movB; simp only [h]; rfl
theorem mov_zs {up sg : Bool} {b : BB} {K r j : Nat} (h : fromI up sg K r = some j) : b.Z j = (movB up sg b K).Z r := by unfold movB; simp only [h]; rfl
theorem mov_os {up sg : Bool} {b : BB} {K r j : Nat} (h : fromI up sg K r = some j) : b.O j = (movB up sg b K).O r := by unfold movB; simp only [h]; rfl
set_option maxRecDepth 100000 in
set_option maxHeartbeats 1000000 in
theorem ref_Moved_true_false (x0 : P) (x1 : BitVec 64)   (w : World) :
    Calls Tryd.prog 24 #[vU x0, .int .i64 (ti (x1)), .bool true, .bool false] w fun e w' => e = .returned (vU (tnumB (movB true false (ofB x0) (x1 % 64#64).toNat))) ∧ Below w.heap.size w w' := by
  have hz48 := zero_48
  simp only [vU]
  obtain ⟨K, hK⟩ : ∃ K, K = (x1 % 64#64).toNat := ⟨_, rfl⟩
  have hK64 : K < 64 := by rw [hK]; exact mod64' x1
  have HM := mov_rem x1
  rw [← hK] at HM ⊢
  replace HM := hid HM
  have HK := hid hK
  clear hK
  go_enter Tryd.func24, Tryd.ntmps24
  have HS : Hid (St w [⟨w.heap.size, [some (.int .u64 (tn (x0.lo))), some (.int .u64 (tn (x0.hi)))], 24⟩, ⟨w.heap.size + 1, [some (.int .u64 0), some (.int .u64 0)], 24⟩] _) := hid (((st_nil w).alloc (k := w.heap.size) rfl [.int .u64 (tn (x0.lo)), .int .u64 (tn (x0.hi))] 24).alloc (k := w.heap.size + 1) (by simp) [.int .u64 0, .int .u64 0] 24)
  go_upto_region 1 with fail
  refine lnb HS.out rfl ?_
  refine lm 0 1 rfl rfl rfl rfl ?_
  simp only [sA, sB]
  refine lv 1 (.int .i64 ((ti x1).tmod 64)) rfl rfl (by intro x hx; go_simp; (first | done | exact rfl)) ?_
  simp only [sA, sB]
  refine la 2 14 rfl rfl rfl rfl ?_
  simp only [sA, sB]
  clear HS
  refine ld fun W1 HS => ?_
  go_upto_region 2 with fail
  refine lnb HS.out rfl ?_
  refine lm 0 1 rfl rfl rfl rfl ?_
  simp only [sA, sB]
  refine lv 1 (.bool ((decide ((ti x1).tmod 64 < 0)))) rfl rfl (by intro x hx; go_simp; (first | done | exact rfl | exact decide_eq_decide.2 (by omega))) ?_
  simp only [sA, sB]
  clear HS
  refine ld fun W2 HS => ?_
  cases h1 : ((decide ((ti x1).tmod 64 < 0)))
  ·have hd1 := of_decide_eq_false h1; replace h1 := hid h1
   rw [show ((ti x1).tmod 64 : Int) = ((K : Nat) : Int) from mov_id HM.out (by omega) h1.out]
   go_upto_region 4 with fail
   refine lnb HS.out rfl ?_
   refine lv 0 (vU x0) rfl rfl (by intro x hx; obtain ⟨f0, f1⟩ := hx.two 0 0 rfl rfl; go_simp; (first | done | exact rfl)) ?_
   simp only [sA, sB, vU]
   refine lc 1 43 #[vU x0] (.agg (fnV 128 (two 64 (ofB x0).Z (ofB x0).O)).toArray) rfl rfl (by intro x hx; exact ref_Of_any x0 _) ?_
   simp only [sA, sB]
   refine lin_new (i := 2) rfl rfl (by rfl) (fnV 128 (fun _ => false)) 48 (fun k => .pointer (some ⟨k, 0, none⟩)) ((fnV 128 (fun _ => false)).map some) (lessC_refl _) (by intro x hx; go_simp; (first | done | exact rfl)) (fun k1 => ?_)
   simp only [sA, sB, sC, sD]
   refine lin_store (i := 3) (St w [⟨w.heap.size, [some (.int .u64 (tn (x0.lo))), some (.int .u64 (tn (x0.hi)))], 24⟩, ⟨w.heap.size + 1, [some (.int .u64 0), some (.int .u64 0)], 24⟩, ⟨k1, ((fnV 128 (two 64 (ofB x0).Z (ofB x0).O)).map some), 48⟩]) rfl rfl (by rfl) (fun x => x.setCells k1 0 (fnV 128 (two 64 (ofB x0).Z (ofB x0).O))) (by intro x hx; exact storeF hx 2 rfl (by simp [fnV_len]) (fnV_one _ _) rfl rfl rfl (fun w => by rw [fnV_len]; kernel_rfl)) (fun x hx => hx.putF 2 _ rfl (by simp [fnV_len])) ?_
   clear HS
   refine ld fun W3 HS => ?_
   go_upto_region 5 with fail
   refine lnb HS.out rfl ?_
   refine lin_new (i := 0) rfl rfl (by rfl) (fnV 128 (fun _ => false)) 48 (fun k => .pointer (some ⟨k, 0, none⟩)) ((fnV 128 (fun _ => false)).map some) (lessC_refl _) (by intro x hx; go_simp; (first | done | exact rfl)) (fun k2 => ?_)
   simp only [sA, sB, sC, sD]
   clear HS
   refine ld fun W4 HS => ?_
   go_upto_region 6 with fail
   refine lnb HS.out rfl ?_
   refine lv 0 (.int .i64 0) rfl rfl (by intro x hx; go_simp; (first | done | exact rfl)) ?_
   simp only [sA, sB]
   clear HS
   refine ld fun W5 HS => ?_
   go_wp2
   refine loop_up 64 (fun k a W => Hid (∃ u1_12 u1_21 u1_22 u1_23 u1_24 u1_25 u1_26 u1_27 u1_28 u1_29 u1_30 u1_31 u1_32 u1_33 u1_34 u1_35 u1_36 u1_37 u1_38 u1_39 u1_40 u1_41 u1_42 u1_43 u1_44 u1_45 u1_46 u1_47 u1_48 u1_49 u1_50 u1_51 u1_52 u1_53 u1_54 u1_55 u1_56 u1_57 u1_58 u1_59 : Value, a = Act.mk [vU x0, .int .i64 ((K : Nat) : Int), .bool true, .bool false, .pointer (some ⟨w.heap.size, 0, none⟩), undef, undef, undef, .pointer (some ⟨w.heap.size + 1, 0, none⟩), .pointer (some ⟨k1, 0, none⟩), .pointer (some ⟨k2, 0, none⟩), .int .i64 ((k : Nat) : Int), u1_12, .int .i64 (ti (x1)), .int .i64 ((K : Nat) : Int), .int .i64 ((K : Nat) : Int), .bool false, undef, undef, vU x0, .agg (fnV 128 (two 64 (ofB x0).Z (ofB x0).O)).toArray, u1_21, u1_22, u1_23, u1_24, u1_25, u1_26, u1_27, u1_28, u1_29, u1_30, u1_31, u1_32, u1_33, u1_34, u1_35, u1_36, u1_37, u1_38, u1_39, u1_40, u1_41, u1_42, u1_43, u1_44, u1_45, u1_46, u1_47, u1_48, u1_49, u1_50, u1_51, u1_52, u1_53, u1_54, u1_55, u1_56, u1_57, u1_58, u1_59, undef, undef].toArray [] ∧ St w [⟨w.heap.size, [some (.int .u64 (tn (x0.lo))), some (.int .u64 (tn (x0.hi)))], 24⟩, ⟨w.heap.size + 1, [some (.int .u64 0), some (.int .u64 0)], 24⟩, ⟨k1, ((fnV 128 (two 64 (ofB x0).Z (ofB x0).O)).map some), 48⟩, ⟨k2, ((fnV 128 (two 64 (upto k (movB true false (ofB x0) K).Z) (upto k (movB true false (ofB x0) K).O))).map some), 48⟩] W)) (hid ⟨(undef), (undef), (undef), (undef), (undef), (undef), (undef), (undef), (undef), (undef), (undef), (undef), (undef), (undef), (undef), (undef), (undef), (undef), (undef), (undef), (undef), (undef), (undef), (undef), (undef), (undef), (undef), (undef), (undef), (undef), (undef), (undef), (undef), (undef), (undef), (undef), (undef), (undef), (undef), (undef), rfl, (by have h := HS.out; rw [← bits_none (movB true false (ofB x0) K).Z (movB true false (ofB x0) K).O] at h; exact h)⟩) (fun r1 a W hr hR => ?_)
   obtain ⟨u1_12, u1_21, u1_22, u1_23, u1_24, u1_25, u1_26, u1_27, u1_28, u1_29, u1_30, u1_31, u1_32, u1_33, u1_34, u1_35, u1_36, u1_37, u1_38, u1_39, u1_40, u1_41, u1_42, u1_43, u1_44, u1_45, u1_46, u1_47, u1_48, u1_49, u1_50, u1_51, u1_52, u1_53, u1_54, u1_55, u1_56, u1_57, u1_58, u1_59, rfl, hS⟩ := hR.out
   replace HS := hid hS
   clear hS hR
   by_cases hlt1 : r1 < 64
   · -- round
     go_upto_region 7 with fail
     refine lnb HS.out rfl ?_
     refine lm 0 11 rfl rfl rfl rfl ?_
     simp only [sA, sB]
     refine lv 1 (.bool true) rfl rfl (by intro x hx; go_simp; (first | done | omega | (simp; omega))) ?_
     simp only [sA, sB]
     clear HS
     refine ld fun W6 HS => ?_
     go_upto_region 9 with fail
     refine lnb HS.out rfl ?_
     refine lm 0 11 rfl rfl rfl rfl ?_
     simp only [sA, sB]
     refine lm 1 1 rfl rfl rfl rfl ?_
     simp only [sA, sB]
     refine lv 2 (.int .i64 ((r1 + K : Nat) : Int)) rfl rfl (by intro x hx; go_simp; (first | done | exact addN r1 K (by omega) | exact congrArg _ (addN r1 K (by omega)) | (rw [addN r1 K (by omega)]; done) | (rw [addN r1 K (by omega)]; rfl))) ?_
     simp only [sA, sB]
     refine la 3 27 rfl rfl rfl rfl ?_
     simp only [sA, sB]
     clear HS
     refine ld fun W7 HS => ?_
     go_upto_region 10 with fail
     refine lnb HS.out rfl ?_
     refine lm 0 2 rfl rfl rfl rfl ?_
     simp only [sA, sB]
     clear HS
     refine ld fun W8 HS => ?_
     go_upto_region 11 with fail
     refine lnb HS.out rfl ?_
     refine lm 0 11 rfl rfl rfl rfl ?_
     simp only [sA, sB]
     refine lm 1 1 rfl rfl rfl rfl ?_
     simp only [sA, sB]
     refine lv 2 (.int .i64 (((r1 : Nat) : Int) - ((K : Nat) : Int))) rfl rfl (by intro x hx; go_simp; (first | done | exact subZ _ _ (by omega) (by omega))) ?_
     simp only [sA, sB]
     refine la 3 31 rfl rfl rfl rfl ?_
     simp only [sA, sB]
     clear HS
     refine ld fun W9 HS => ?_
     go_upto_region 12 with fail
     refine lnb HS.out rfl ?_
     refine lm 0 12 rfl rfl rfl rfl ?_
     simp only [sA, sB]
     refine lv 1 (.bool ((decide (((r1 : Nat) : Int) - ((K : Nat) : Int) > 63)))) rfl rfl (by intro x hx; go_simp; (first | done | exact rfl | exact decide_eq_decide.2 (by omega))) ?_
     simp only [sA, sB]
     refine lm 2 33 rfl rfl rfl rfl ?_
     simp only [sA, sB]
     cases h2 : ((decide (((r1 : Nat) : Int) - ((K : Nat) : Int) > 63)))
     ·have hd2 := of_decide_eq_false h2; replace h2 := hid h2
      refine lin_no (i := 3) rfl rfl (by kernel_rfl) ?_
      simp only [sA, sB]
      refine lv 4 (.bool false) rfl rfl (by intro x hx; go_simp; (first | done | exact rfl)) ?_
      simp only [sA, sB]
      clear HS
      refine ld fun W10 HS => ?_
      go_upto_region 14 with fail
      refine lnb HS.out rfl ?_
      refine lm 0 12 rfl rfl rfl rfl ?_
      simp only [sA, sB]
      refine lv 1 (.bool ((decide (((r1 : Nat) : Int) - ((K : Nat) : Int) < 0)))) rfl rfl (by intro x hx; go_simp; (first | done | exact rfl | exact decide_eq_decide.2 (by omega))) ?_
      simp only [sA, sB]
      refine lm 2 38 rfl rfl rfl rfl ?_
      simp only [sA, sB]
      cases h3 : ((decide (((r1 : Nat) : Int) - ((K : Nat) : Int) < 0)))
      ·have hd3 := of_decide_eq_false h3; replace h3 := hid h3
       refine lv 3 (.int .i64 (((r1 : Nat) : Int) - ((K : Nat) : Int))) rfl rfl (by intro x hx; go_simp; (first | done | exact rfl)) ?_
       simp only [sA, sB]
       refine lv 4 (.bool ((decide (((r1 : Nat) : Int) - ((K : Nat) : Int) > 63)))) rfl rfl (by intro x hx; go_simp; (first | done | exact rfl | exact decide_eq_decide.2 (by omega))) ?_
       simp only [sA, sB]
       refine lv 5 (.bool ((decide (((r1 : Nat) : Int) - ((K : Nat) : Int) > 63)))) rfl rfl (by intro x hx; go_simp; (first | done | exact rfl)) ?_
       simp only [sA, sB]
       clear HS
       refine ld fun W11 HS => ?_
       rw [show ((decide (((r1 : Nat) : Int) - ((K : Nat) : Int) > 63))) = false from h2.out]
       rw [show (((r1 : Nat) : Int) - ((K : Nat) : Int) : Int) = ((r1 - K : Nat) : Int) from (by have := of_decide_eq_false h3.out; omega)]
       go_upto_region 16 with fail
       refine lnb HS.out rfl ?_
       refine lm 0 11 rfl rfl rfl rfl ?_
       simp only [sA, sB]
       refine lm 1 12 rfl rfl rfl rfl ?_
       simp only [sA, sB]
       refine lv 2 (.pointer (some ⟨k1, 0, none⟩)) rfl rfl (by intro x hx; go_simp; (first | done | exact rfl)) ?_
       simp only [sA, sB]
       refine lv 3 (.pointer (some ⟨k1, r1 - K, none⟩)) rfl rfl (by intro x hx; go_simp; first | (rw [if_pos (by omega)]; done) | (rw [if_pos (by omega)]; rfl) | (intro hq; exfalso; omega) | (simp; omega)) ?_
       simp only [sA, sB]
       refine lv 4 (.bool ((ofB x0).Z (r1 - K))) rfl rfl (by intro x hx; have f0 := hx.fn 2 (r1 - K) rfl (by omega); rw [two_lo (by omega)] at f0; go_simp; (first | done | exact rfl)) ?_
       simp only [sA, sB]
       refine lv 5 (.pointer (some ⟨k2, 0, none⟩)) rfl rfl (by intro x hx; go_simp; (first | done | exact rfl)) ?_
       simp only [sA, sB]
       refine lv 6 (.pointer (some ⟨k2, r1, none⟩)) rfl rfl (by intro x hx; go_simp; first | (rw [if_pos (by omega)]; done) | (rw [if_pos (by omega)]; rfl) | (intro hq; exfalso; omega) | (simp; omega)) ?_
       simp only [sA, sB]
       refine lin_store (i := 7) (St w [⟨w.heap.size, [some (.int .u64 (tn (x0.lo))), some (.int .u64 (tn (x0.hi)))], 24⟩, ⟨w.heap.size + 1, [some (.int .u64 0), some (.int .u64 0)], 24⟩, ⟨k1, ((fnV 128 (two 64 (ofB x0).Z (ofB x0).O)).map some), 48⟩, ⟨k2, ((fnV 128 (upd (two 64 (upto r1 (movB true false (ofB x0) K).Z) (upto r1 (movB true false (ofB x0) K).O)) r1 ((ofB x0).Z (r1 - K)))).map some), 48⟩]) rfl rfl (by rfl) (fun x => x.setCell ⟨k2, r1, none⟩ (.bool ((ofB x0).Z (r1 - K)))) (by intro x hx; have z0 := hx.fn 3 (r1) rfl (by omega); have q0 := hx.soft 3 (r1) rfl; go_simp; (first | done | rfl)) (fun x hx => hx.fnset 3 (r1) ((ofB x0).Z (r1 - K)) rfl) ?_
       clear HS
       refine ld fun W12 HS => ?_
       go_upto_region 17 with fail
       refine lnb HS.out rfl ?_
       refine lm 0 11 rfl rfl rfl rfl ?_
       simp only [sA, sB]
       refine lm 1 12 rfl rfl rfl rfl ?_
       simp only [sA, sB]
       refine lv 2 (.pointer (some ⟨k1, 64, none⟩)) rfl rfl (by intro x hx; go_simp; (first | done | exact rfl)) ?_
       simp only [sA, sB]
       refine lv 3 (.pointer (some ⟨k1, 64 + (r1 - K), none⟩)) rfl rfl (by intro x hx; go_simp; first | (rw [if_pos (by omega)]; done) | (rw [if_pos (by omega)]; rfl) | (intro hq; exfalso; omega) | (simp; omega)) ?_
       simp only [sA, sB]
       refine lv 4 (.bool ((ofB x0).O (r1 - K))) rfl rfl (by intro x hx; have f0 := hx.fn 2 (64 + (r1 - K)) rfl (by omega); rw [two_hi] at f0; go_simp; (first | done | exact rfl)) ?_
       simp only [sA, sB]
       refine lv 5 (.pointer (some ⟨k2, 64, none⟩)) rfl rfl (by intro x hx; go_simp; (first | done | exact rfl)) ?_
       simp only [sA, sB]
       refine lv 6 (.pointer (some ⟨k2, 64 + r1, none⟩)) rfl rfl (by intro x hx; go_simp; first | (rw [if_pos (by omega)]; done) | (rw [if_pos (by omega)]; rfl) | (intro hq; exfalso; omega) | (simp; omega)) ?_
       simp only [sA, sB]
       refine lin_store (i := 7) (St w [⟨w.heap.size, [some (.int .u64 (tn (x0.lo))), some (.int .u64 (tn (x0.hi)))], 24⟩, ⟨w.heap.size + 1, [some (.int .u64 0), some (.int .u64 0)], 24⟩, ⟨k1, ((fnV 128 (two 64 (ofB x0).Z (ofB x0).O)).map some), 48⟩, ⟨k2, ((fnV 128 (upd (upd (two 64 (upto r1 (movB true false (ofB x0) K).Z) (upto r1 (movB true false (ofB x0) K).O)) r1 ((ofB x0).Z (r1 - K))) (64 + r1) ((ofB x0).O (r1 - K)))).map some), 48⟩]) rfl rfl (by rfl) (fun x => x.setCell ⟨k2, 64 + r1, none⟩ (.bool ((ofB x0).O (r1 - K)))) (by intro x hx; have z0 := hx.fn 3 (64 + r1) rfl (by omega); have q0 := hx.soft 3 (64 + r1) rfl; go_simp; (first | done | rfl)) (fun x hx => hx.fnset 3 (64 + r1) ((ofB x0).O (r1 - K)) rfl) ?_
       clear HS
       refine ld fun W13 HS => ?_
       go_upto_region 8 with fail
       refine lnb HS.out rfl ?_
       refine lm 0 11 rfl rfl rfl rfl ?_
       simp only [sA, sB]
       refine lv 1 (.int .i64 ((r1 + 1 : Nat) : Int)) rfl rfl (by intro x hx; go_simp; (first | done | exact addN r1 1 (by omega) | exact congrArg _ (addN r1 1 (by omega)) | (rw [addN r1 1 (by omega)]; done) | (rw [addN r1 1 (by omega)]; rfl))) ?_
       simp only [sA, sB]
       refine la 2 24 rfl rfl rfl rfl ?_
       simp only [sA, sB]
       clear HS
       refine ld fun W14 HS => ?_
       go_wp2
       first | exact ⟨hlt1, hid ⟨_, _, _, _, _, _, _, _, _, _, _, _, _, _, _, _, _, _, _, _, _, _, _, _, _, _, _, _, _, _, _, _, _, _, _, _, _, _, _, _, rfl, (by have h := HS.out; rw [upd_lo (by omega), upd_hi, upto_next (mov_zs (from_up h3.out)), upto_next (mov_os (from_up h3.out))] at h; exact h)⟩⟩ | exact hid ⟨_, _, _, _, _, _, _, _, _, _, _, _, _, _, _, _, _, _, _, _, _, _, _, _, _, _, _, _, _, _, _, _, _, _, _, _, _, _, _, _, rfl, (by have h := HS.out; rw [upd_lo (by omega), upd_hi, upto_next (mov_zs (from_up h3.out)), upto_next (mov_os (from_up h3.out))] at h; exact h)⟩ | exact (by have h := HS.out; rw [upd_lo (by omega), upd_hi, upto_next (mov_zs (from_up h3.out)), upto_next (mov_os (from_up h3.out))] at h; exact h)
      ·have hd3 := of_decide_eq_true h3; replace h3 := hid h3
       refine lin_no (i := 3) rfl rfl (by kernel_rfl) ?_
       simp only [sA, sB]
       refine lin_no (i := 4) rfl rfl (by kernel_rfl) ?_
       simp only [sA, sB]
       refine lv 5 (.bool true) rfl rfl (by intro x hx; go_simp; (first | done | exact rfl)) ?_
       simp only [sA, sB]
       clear HS
       refine ld fun W11 HS => ?_
       go_upto_region 15 with fail
       refine lnb HS.out rfl ?_
       refine lm 0 11 rfl rfl rfl rfl ?_
       simp only [sA, sB]
       refine lv 1 (.pointer (some ⟨k2, 0, none⟩)) rfl rfl (by intro x hx; go_simp; (first | done | exact rfl)) ?_
       simp only [sA, sB]
       refine lv 2 (.pointer (some ⟨k2, r1, none⟩)) rfl rfl (by intro x hx; go_simp; first | (rw [if_pos (by omega)]; done) | (rw [if_pos (by omega)]; rfl) | (intro hq; exfalso; omega) | (simp; omega)) ?_
       simp only [sA, sB]
       refine lin_store (i := 3) (St w [⟨w.heap.size, [some (.int .u64 (tn (x0.lo))), some (.int .u64 (tn (x0.hi)))], 24⟩, ⟨w.heap.size + 1, [some (.int .u64 0), some (.int .u64 0)], 24⟩, ⟨k1, ((fnV 128 (two 64 (ofB x0).Z (ofB x0).O)).map some), 48⟩, ⟨k2, ((fnV 128 (upd (two 64 (upto r1 (movB true false (ofB x0) K).Z) (upto r1 (movB true false (ofB x0) K).O)) r1 true)).map some), 48⟩]) rfl rfl (by rfl) (fun x => x.setCell ⟨k2, r1, none⟩ (.bool true)) (by intro x hx; have z0 := hx.fn 3 (r1) rfl (by omega); have q0 := hx.soft 3 (r1) rfl; go_simp; (first | done | rfl)) (fun x hx => hx.fnset 3 (r1) true rfl) ?_
       clear HS
       refine ld fun W12 HS => ?_
       go_upto_region 8 with fail
       refine lnb HS.out rfl ?_
       refine lm 0 11 rfl rfl rfl rfl ?_
       simp only [sA, sB]
       refine lv 1 (.int .i64 ((r1 + 1 : Nat) : Int)) rfl rfl (by intro x hx; go_simp; (first | done | exact addN r1 1 (by omega) | exact congrArg _ (addN r1 1 (by omega)) | (rw [addN r1 1 (by omega)]; done) | (rw [addN r1 1 (by omega)]; rfl))) ?_
       simp only [sA, sB]
       refine la 2 24 rfl rfl rfl rfl ?_
       simp only [sA, sB]
       clear HS
       refine ld fun W13 HS => ?_
       go_wp2
       first | exact ⟨hlt1, hid ⟨_, _, _, _, _, _, _, _, _, _, _, _, _, _, _, _, _, _, _, _, _, _, _, _, _, _, _, _, _, _, _, _, _, _, _, _, _, _, _, _, rfl, (by have h := HS.out; rw [upd_lo (by omega), upto_next (mov_zn (from_upno h3.out)), ← upto_skip (F := (movB true false (ofB x0) K).O) (mov_on (from_upno h3.out))] at h; exact h)⟩⟩ | exact hid ⟨_, _, _, _, _, _, _, _, _, _, _, _, _, _, _, _, _, _, _, _, _, _, _, _, _, _, _, _, _, _, _, _, _, _, _, _, _, _, _, _, rfl, (by have h := HS.out; rw [upd_lo (by omega), upto_next (mov_zn (from_upno h3.out)), ← upto_skip (F := (movB true false (ofB x0) K).O) (mov_on (from_upno h3.out))] at h; exact h)⟩ | exact (by have h := HS.out; rw [upd_lo (by omega), upto_next (mov_zn (from_upno h3.out)), ← upto_skip (F := (movB true false (ofB x0) K).O) (mov_on (from_upno h3.out))] at h; exact h)
     ·have hd2 := of_decide_eq_true h2; replace h2 := hid h2
      refine lv 3 (.bool false) rfl rfl (by intro x hx; go_simp; (first | done | exact rfl)) ?_
      simp only [sA, sB]
      refine lv 4 (.bool false) rfl rfl (by intro x hx; go_simp; (first | done | exact rfl)) ?_
      simp only [sA, sB]
      clear HS
      refine ld fun W10 HS => ?_
      go_upto_region 14 with fail
      refine lnb HS.out rfl ?_
      refine lm 0 12 rfl rfl rfl rfl ?_
      simp only [sA, sB]
      refine lv 1 (.bool ((decide (((r1 : Nat) : Int) - ((K : Nat) : Int) < 0)))) rfl rfl (by intro x hx; go_simp; (first | done | exact rfl | exact decide_eq_decide.2 (by omega))) ?_
      simp only [sA, sB]
      refine lm 2 38 rfl rfl rfl rfl ?_
      simp only [sA, sB]
      cases h3 : ((decide (((r1 : Nat) : Int) - ((K : Nat) : Int) < 0)))
      ·have hd3 := of_decide_eq_false h3; replace h3 := hid h3
       refine lv 3 (.int .i64 (((r1 : Nat) : Int) - ((K : Nat) : Int))) rfl rfl (by intro x hx; go_simp; (first | done | exact rfl)) ?_
       simp only [sA, sB]
       refine lv 4 (.bool ((decide (((r1 : Nat) : Int) - ((K : Nat) : Int) > 63)))) rfl rfl (by intro x hx; go_simp; (first | done | exact rfl | exact decide_eq_decide.2 (by omega))) ?_
       simp only [sA, sB]
       refine lv 5 (.bool ((decide (((r1 : Nat) : Int) - ((K : Nat) : Int) > 63)))) rfl rfl (by intro x hx; go_simp; (first | done | exact rfl)) ?_
       simp only [sA, sB]
       clear HS
       refine ld fun W11 HS => ?_
       rw [show ((decide (((r1 : Nat) : Int) - ((K : Nat) : Int) > 63))) = true from h2.out]
       rw [show (((r1 : Nat) : Int) - ((K : Nat) : Int) : Int) = ((r1 - K : Nat) : Int) from (by have := of_decide_eq_false h3.out; omega)]
       go_upto_region 15 with fail
       refine lnb HS.out rfl ?_
       refine lm 0 11 rfl rfl rfl rfl ?_
       simp only [sA, sB]
       refine lv 1 (.pointer (some ⟨k2, 0, none⟩)) rfl rfl (by intro x hx; go_simp; (first | done | exact rfl)) ?_
       simp only [sA, sB]
       refine lv 2 (.pointer (some ⟨k2, r1, none⟩)) rfl rfl (by intro x hx; go_simp; first | (rw [if_pos (by omega)]; done) | (rw [if_pos (by omega)]; rfl) | (intro hq; exfalso; omega) | (simp; omega)) ?_
       simp only [sA, sB]
       refine lin_store (i := 3) (St w [⟨w.heap.size, [some (.int .u64 (tn (x0.lo))), some (.int .u64 (tn (x0.hi)))], 24⟩, ⟨w.heap.size + 1, [some (.int .u64 0), some (.int .u64 0)], 24⟩, ⟨k1, ((fnV 128 (two 64 (ofB x0).Z (ofB x0).O)).map some), 48⟩, ⟨k2, ((fnV 128 (upd (two 64 (upto r1 (movB true false (ofB x0) K).Z) (upto r1 (movB true false (ofB x0) K).O)) r1 true)).map some), 48⟩]) rfl rfl (by rfl) (fun x => x.setCell ⟨k2, r1, none⟩ (.bool true)) (by intro x hx; have z0 := hx.fn 3 (r1) rfl (by omega); have q0 := hx.soft 3 (r1) rfl; go_simp; (first | done | rfl)) (fun x hx => hx.fnset 3 (r1) true rfl) ?_
       clear HS
       refine ld fun W12 HS => ?_
       go_upto_region 8 with fail
       refine lnb HS.out rfl ?_
       refine lm 0 11 rfl rfl rfl rfl ?_
       simp only [sA, sB]
       refine lv 1 (.int .i64 ((r1 + 1 : Nat) : Int)) rfl rfl (by intro x hx; go_simp; (first | done | exact addN r1 1 (by omega) | exact congrArg _ (addN r1 1 (by omega)) | (rw [addN r1 1 (by omega)]; done) | (rw [addN r1 1 (by omega)]; rfl))) ?_
       simp only [sA, sB]
       refine la 2 24 rfl rfl rfl rfl ?_
       simp only [sA, sB]
       clear HS
       refine ld fun W13 HS => ?_
       go_wp2
       first | exact ⟨hlt1, hid ⟨_, _, _, _, _, _, _, _, _, _, _, _, _, _, _, _, _, _, _, _, _, _, _, _, _, _, _, _, _, _, _, _, _, _, _, _, _, _, _, _, rfl, (by exfalso; have := of_decide_eq_true h2.out; omega)⟩⟩ | exact hid ⟨_, _, _, _, _, _, _, _, _, _, _, _, _, _, _, _, _, _, _, _, _, _, _, _, _, _, _, _, _, _, _, _, _, _, _, _, _, _, _, _, rfl, (by exfalso; have := of_decide_eq_true h2.out; omega)⟩ | exact (by exfalso; have := of_decide_eq_true h2.out; omega)
      ·have hd3 := of_decide_eq_true h3; replace h3 := hid h3
       refine lin_no (i := 3) rfl rfl (by kernel_rfl) ?_
       simp only [sA, sB]
       refine lin_no (i := 4) rfl rfl (by kernel_rfl) ?_
       simp only [sA, sB]
       refine lv 5 (.bool true) rfl rfl (by intro x hx; go_simp; (first | done | exact rfl)) ?_
       simp only [sA, sB]
       clear HS
       refine ld fun W11 HS => ?_
       go_upto_region 15 with fail
       refine lnb HS.out rfl ?_
       refine lm 0 11 rfl rfl rfl rfl ?_
       simp only [sA, sB]
       refine lv 1 (.pointer (some ⟨k2, 0, none⟩)) rfl rfl (by intro x hx; go_simp; (first | done | exact rfl)) ?_
       simp only [sA, sB]
       refine lv 2 (.pointer (some ⟨k2, r1, none⟩)) rfl rfl (by intro x hx; go_simp; first | (rw [if_pos (by omega)]; done) | (rw [if_pos (by omega)]; rfl) | (intro hq; exfalso; omega) | (simp; omega)) ?_
       simp only [sA, sB]
       refine lin_store (i := 3) (St w [⟨w.heap.size, [some (.int .u64 (tn (x0.lo))), some (.int .u64 (tn (x0.hi)))], 24⟩, ⟨w.heap.size + 1, [some (.int .u64 0), some (.int .u64 0)], 24⟩, ⟨k1, ((fnV 128 (two 64 (ofB x0).Z (ofB x0).O)).map some), 48⟩, ⟨k2, ((fnV 128 (upd (two 64 (upto r1 (movB true false (ofB x0) K).Z) (upto r1 (movB true false (ofB x0) K).O)) r1 true)).map some), 48⟩]) rfl rfl (by rfl) (fun x => x.setCell ⟨k2, r1, none⟩ (.bool true)) (by intro x hx; have z0 := hx.fn 3 (r1) rfl (by omega); have q0 := hx.soft 3 (r1) rfl; go_simp; (first | done | rfl)) (fun x hx => hx.fnset 3 (r1) true rfl) ?_
       clear HS
       refine ld fun W12 HS => ?_
       go_upto_region 8 with fail
       refine lnb HS.out rfl ?_
       refine lm 0 11 rfl rfl rfl rfl ?_
       simp only [sA, sB]
       refine lv 1 (.int .i64 ((r1 + 1 : Nat) : Int)) rfl rfl (by intro x hx; go_simp; (first | done | exact addN r1 1 (by omega) | exact congrArg _ (addN r1 1 (by omega)) | (rw [addN r1 1 (by omega)]; done) | (rw [addN r1 1 (by omega)]; rfl))) ?_
       simp only [sA, sB]
       refine la 2 24 rfl rfl rfl rfl ?_
       simp only [sA, sB]
       clear HS
       refine ld fun W13 HS => ?_
       go_wp2
       first | exact ⟨hlt1, hid ⟨_, _, _, _, _, _, _, _, _, _, _, _, _, _, _, _, _, _, _, _, _, _, _, _, _, _, _, _, _, _, _, _, _, _, _, _, _, _, _, _, rfl, (by exfalso; have := of_decide_eq_true h2.out; omega)⟩⟩ | exact hid ⟨_, _, _, _, _, _, _, _, _, _, _, _, _, _, _, _, _, _, _, _, _, _, _, _, _, _, _, _, _, _, _, _, _, _, _, _, _, _, _, _, rfl, (by exfalso; have := of_decide_eq_true h2.out; omega)⟩ | exact (by exfalso; have := of_decide_eq_true h2.out; omega)
   · have hN1 := hid (show r1 = 64 by omega)
     replace HS := hid (show St w [⟨w.heap.size, [some (.int .u64 (tn (x0.lo))), some (.int .u64 (tn (x0.hi)))], 24⟩, ⟨w.heap.size + 1, [some (.int .u64 0), some (.int .u64 0)], 24⟩, ⟨k1, ((fnV 128 (two 64 (ofB x0).Z (ofB x0).O)).map some), 48⟩, ⟨k2, ((fnV 128 (two 64 (movB true false (ofB x0) K).Z (movB true false (ofB x0) K).O)).map some), 48⟩] W from (by have h := HS.out; rw [hN1.out, bits_all] at h; exact h))
     go_upto_region 7 with fail
     refine lnb HS.out rfl ?_
     refine lm 0 11 rfl rfl rfl rfl ?_
     simp only [sA, sB]
     refine lv 1 (.bool false) rfl rfl (by intro x hx; go_simp; (first | done | omega | (simp; omega))) ?_
     simp only [sA, sB]
     clear HS
     refine ld fun W6 HS => ?_
     go_upto_region 18 with fail
     refine lnb HS.out rfl ?_
     refine lv 0 (.agg (fnV 128 (two 64 (movB true false (ofB x0) K).Z (movB true false (ofB x0) K).O)).toArray) rfl rfl (by intro x hx; exact loadF hx 3 rfl rfl rfl (fun w => by kernel_rfl) (fun w => by kernel_rfl)) ?_
     simp only [sA, sB]
     refine lc 1 44 #[.agg (fnV 128 (two 64 (movB true false (ofB x0) K).Z (movB true false (ofB x0) K).O)).toArray] (vU (tnumB (movB true false (ofB x0) K))) rfl rfl (by intro x hx; exact ref_Tnum_any (movB true false (ofB x0) K) _) ?_
     simp only [sA, sB, vU]
     refine ls 2 1 0 (cU (tnumB (movB true false (ofB x0) K))) rfl rfl rfl (by intro x hx; obtain ⟨⟨_, z0, q0⟩, ⟨_, z1, q1⟩⟩ := hx.at2 1 0 rfl; go_simp; (first | done | rfl)) ?_
     simp only [Blk.putC, setM, cU, sA, sB]
     clear HS
     refine ld fun W7 HS => ?_
     go_wp2
     obtain ⟨r0, r1⟩ := HS.out.two 1 0 rfl rfl
     exact bodyPost_ret (v := vU (tnumB (movB true false (ofB x0) K))) (by simp [results, Tryd.results24, go_sem, r0, r1, vU]) rfl ⟨rfl, HS.out.below⟩
  ·have hd1 := of_decide_eq_true h1; replace h1 := hid h1
   go_upto_region 3 with fail
   refine lnb HS.out rfl ?_
   refine lm 0 1 rfl rfl rfl rfl ?_
   simp only [sA, sB]
   refine lv 1 (.int .i64 ((K : Nat) : Int)) rfl rfl (by intro x hx; go_simp; (first | done | exact mov_add HM.out (by omega) h1.out)) ?_
   simp only [sA, sB]
   refine la 2 18 rfl rfl rfl rfl ?_
   simp only [sA, sB]
   clear HS
   refine ld fun W3 HS => ?_
   go_upto_region 4 with fail
   refine lnb HS.out rfl ?_
   refine lv 0 (vU x0) rfl rfl (by intro x hx; obtain ⟨f0, f1⟩ := hx.two 0 0 rfl rfl; go_simp; (first | done | exact rfl)) ?_
   simp only [sA, sB, vU]
   refine lc 1 43 #[vU x0] (.agg (fnV 128 (two 64 (ofB x0).Z (ofB x0).O)).toArray) rfl rfl (by intro x hx; exact ref_Of_any x0 _) ?_
   simp only [sA, sB]
   refine lin_new (i := 2) rfl rfl (by rfl) (fnV 128 (fun _ => false)) 48 (fun k => .pointer (some ⟨k, 0, none⟩)) ((fnV 128 (fun _ => false)).map some) (lessC_refl _) (by intro x hx; go_simp; (first | done | exact rfl)) (fun k1 => ?_)
   simp only [sA, sB, sC, sD]
   refine lin_store (i := 3) (St w [⟨w.heap.size, [some (.int .u64 (tn (x0.lo))), some (.int .u64 (tn (x0.hi)))], 24⟩, ⟨w.heap.size + 1, [some (.int .u64 0), some (.int .u64 0)], 24⟩, ⟨k1, ((fnV 128 (two 64 (ofB x0).Z (ofB x0).O)).map some), 48⟩]) rfl rfl (by rfl) (fun x => x.setCells k1 0 (fnV 128 (two 64 (ofB x0).Z (ofB x0).O))) (by intro x hx; exact storeF hx 2 rfl (by simp [fnV_len]) (fnV_one _ _) rfl rfl rfl (fun w => by rw [fnV_len]; kernel_rfl)) (fun x hx => hx.putF 2 _ rfl (by simp [fnV_len])) ?_
   clear HS
   refine ld fun W4 HS => ?_
   go_upto_region 5 with fail
   refine lnb HS.out rfl ?_
   refine lin_new (i := 0) rfl rfl (by rfl) (fnV 128 (fun _ => false)) 48 (fun k => .pointer (some ⟨k, 0, none⟩)) ((fnV 128 (fun _ => false)).map some) (lessC_refl _) (by intro x hx; go_simp; (first | done | exact rfl)) (fun k2 => ?_)
   simp only [sA, sB, sC, sD]
   clear HS
   refine ld fun W5 HS => ?_
   go_upto_region 6 with fail
   refine lnb HS.out rfl ?_
   refine lv 0 (.int .i64 0) rfl rfl (by intro x hx; go_simp; (first | done | exact rfl)) ?_
   simp only [sA, sB]
   clear HS
   refine ld fun W6 HS => ?_
   go_wp2
   refine loop_up 64 (fun k a W => Hid (∃ u2_12 u2_21 u2_22 u2_23 u2_24 u2_25 u2_26 u2_27 u2_28 u2_29 u2_30 u2_31 u2_32 u2_33 u2_34 u2_35 u2_36 u2_37 u2_38 u2_39 u2_40 u2_41 u2_42 u2_43 u2_44 u2_45 u2_46 u2_47 u2_48 u2_49 u2_50 u2_51 u2_52 u2_53 u2_54 u2_55 u2_56 u2_57 u2_58 u2_59 : Value, a = Act.mk [vU x0, .int .i64 ((K : Nat) : Int), .bool true, .bool false, .pointer (some ⟨w.heap.size, 0, none⟩), undef, undef, undef, .pointer (some ⟨w.heap.size + 1, 0, none⟩), .pointer (some ⟨k1, 0, none⟩), .pointer (some ⟨k2, 0, none⟩), .int .i64 ((k : Nat) : Int), u2_12, .int .i64 (ti (x1)), .int .i64 ((ti x1).tmod 64), .int .i64 ((ti x1).tmod 64), .bool true, .int .i64 ((ti x1).tmod 64), .int .i64 ((K : Nat) : Int), vU x0, .agg (fnV 128 (two 64 (ofB x0).Z (ofB x0).O)).toArray, u2_21, u2_22, u2_23, u2_24, u2_25, u2_26, u2_27, u2_28, u2_29, u2_30, u2_31, u2_32, u2_33, u2_34, u2_35, u2_36, u2_37, u2_38, u2_39, u2_40, u2_41, u2_42, u2_43, u2_44, u2_45, u2_46, u2_47, u2_48, u2_49, u2_50, u2_51, u2_52, u2_53, u2_54, u2_55, u2_56, u2_57, u2_58, u2_59, undef, undef].toArray [] ∧ St w [⟨w.heap.size, [some (.int .u64 (tn (x0.lo))), some (.int .u64 (tn (x0.hi)))], 24⟩, ⟨w.heap.size + 1, [some (.int .u64 0), some (.int .u64 0)], 24⟩, ⟨k1, ((fnV 128 (two 64 (ofB x0).Z (ofB x0).O)).map some), 48⟩, ⟨k2, ((fnV 128 (two 64 (upto k (movB true false (ofB x0) K).Z) (upto k (movB true false (ofB x0) K).O))).map some), 48⟩] W)) (hid ⟨(undef), (undef), (undef), (undef), (undef), (undef), (undef), (undef), (undef), (undef), (undef), (undef), (undef), (undef), (undef), (undef), (undef), (undef), (undef), (undef), (undef), (undef), (undef), (undef), (undef), (undef), (undef), (undef), (undef), (undef), (undef), (undef), (undef), (undef), (undef), (undef), (undef), (undef), (undef), (undef), rfl, (by have h := HS.out; rw [← bits_none (movB true false (ofB x0) K).Z (movB true false (ofB x0) K).O] at h; exact h)⟩) (fun r2 a W hr hR => ?_)
   obtain ⟨u2_12, u2_21, u2_22, u2_23, u2_24, u2_25, u2_26, u2_27, u2_28, u2_29, u2_30, u2_31, u2_32, u2_33, u2_34, u2_35, u2_36, u2_37, u2_38, u2_39, u2_40, u2_41, u2_42, u2_43, u2_44, u2_45, u2_46, u2_47, u2_48, u2_49, u2_50, u2_51, u2_52, u2_53, u2_54, u2_55, u2_56, u2_57, u2_58, u2_59, rfl, hS⟩ := hR.out
   replace HS := hid hS
   clear hS hR
   by_cases hlt2 : r2 < 64
   · -- round
     go_upto_region 7 with fail
     refine lnb HS.out rfl ?_
     refine lm 0 11 rfl rfl rfl rfl ?_
     simp only [sA, sB]
     refine lv 1 (.bool true) rfl rfl (by intro x hx; go_simp; (first | done | omega | (simp; omega))) ?_
     simp only [sA, sB]
     clear HS
     refine ld fun W7 HS => ?_
     go_upto_region 9 with fail
     refine lnb HS.out rfl ?_
     refine lm 0 11 rfl rfl rfl rfl ?_
     simp only [sA, sB]
     refine lm 1 1 rfl rfl rfl rfl ?_
     simp only [sA, sB]
     refine lv 2 (.int .i64 ((r2 + K : Nat) : Int)) rfl rfl (by intro x hx; go_simp; (first | done | exact addN r2 K (by omega) | exact congrArg _ (addN r2 K (by omega)) | (rw [addN r2 K (by omega)]; done) | (rw [addN r2 K (by omega)]; rfl))) ?_
     simp only [sA, sB]
     refine la 3 27 rfl rfl rfl rfl ?_
     simp only [sA, sB]
     clear HS
     refine ld fun W8 HS => ?_
     go_upto_region 10 with fail
     refine lnb HS.out rfl ?_
     refine lm 0 2 rfl rfl rfl rfl ?_
     simp only [sA, sB]
     clear HS
     refine ld fun W9 HS => ?_
     go_upto_region 11 with fail
     refine lnb HS.out rfl ?_
     refine lm 0 11 rfl rfl rfl rfl ?_
     simp only [sA, sB]
     refine lm 1 1 rfl rfl rfl rfl ?_
     simp only [sA, sB]
     refine lv 2 (.int .i64 (((r2 : Nat) : Int) - ((K : Nat) : Int))) rfl rfl (by intro x hx; go_simp; (first | done | exact subZ _ _ (by omega) (by omega))) ?_
     simp only [sA, sB]
     refine la 3 31 rfl rfl rfl rfl ?_
     simp only [sA, sB]
     clear HS
     refine ld fun W10 HS => ?_
     go_upto_region 12 with fail
     refine lnb HS.out rfl ?_
     refine lm 0 12 rfl rfl rfl rfl ?_
     simp only [sA, sB]
     refine lv 1 (.bool ((decide (((r2 : Nat) : Int) - ((K : Nat) : Int) > 63)))) rfl rfl (by intro x hx; go_simp; (first | done | exact rfl | exact decide_eq_decide.2 (by omega))) ?_
     simp only [sA, sB]
     refine lm 2 33 rfl rfl rfl rfl ?_
     simp only [sA, sB]
     cases h2 : ((decide (((r2 : Nat) : Int) - ((K : Nat) : Int) > 63)))
     ·have hd2 := of_decide_eq_false h2; replace h2 := hid h2
      refine lin_no (i := 3) rfl rfl (by kernel_rfl) ?_
      simp only [sA, sB]
      refine lv 4 (.bool false) rfl rfl (by intro x hx; go_simp; (first | done | exact rfl)) ?_
      simp only [sA, sB]
      clear HS
      refine ld fun W11 HS => ?_
      go_upto_region 14 with fail
      refine lnb HS.out rfl ?_
      refine lm 0 12 rfl rfl rfl rfl ?_
      simp only [sA, sB]
      refine lv 1 (.bool ((decide (((r2 : Nat) : Int) - ((K : Nat) : Int) < 0)))) rfl rfl (by intro x hx; go_simp; (first | done | exact rfl | exact decide_eq_decide.2 (by omega))) ?_
      simp only [sA, sB]
      refine lm 2 38 rfl rfl rfl rfl ?_
      simp only [sA, sB]
      cases h3 : ((decide (((r2 : Nat) : Int) - ((K : Nat) : Int) < 0)))
      ·have hd3 := of_decide_eq_false h3; replace h3 := hid h3
       refine lv 3 (.int .i64 (((r2 : Nat) : Int) - ((K : Nat) : Int))) rfl rfl (by intro x hx; go_simp; (first | done | exact rfl)) ?_
       simp only [sA, sB]
       refine lv 4 (.bool ((decide (((r2 : Nat) : Int) - ((K : Nat) : Int) > 63)))) rfl rfl (by intro x hx; go_simp; (first | done | exact rfl | exact decide_eq_decide.2 (by omega))) ?_
       simp only [sA, sB]
       refine lv 5 (.bool ((decide (((r2 : Nat) : Int) - ((K : Nat) : Int) > 63)))) rfl rfl (by intro x hx; go_simp; (first | done | exact rfl)) ?_
       simp only [sA, sB]
       clear HS
       refine ld fun W12 HS => ?_
       rw [show ((decide (((r2 : Nat) : Int) - ((K : Nat) : Int) > 63))) = false from h2.out]
       rw [show (((r2 : Nat) : Int) - ((K : Nat) : Int) : Int) = ((r2 - K : Nat) : Int) from (by have := of_decide_eq_false h3.out; omega)]
       go_upto_region 16 with fail
       refine lnb HS.out rfl ?_
       refine lm 0 11 rfl rfl rfl rfl ?_
       simp only [sA, sB]
       refine lm 1 12 rfl rfl rfl rfl ?_
       simp only [sA, sB]
       refine lv 2 (.pointer (some ⟨k1, 0, none⟩)) rfl rfl (by intro x hx; go_simp; (first | done | exact rfl)) ?_
       simp only [sA, sB]
       refine lv 3 (.pointer (some ⟨k1, r2 - K, none⟩)) rfl rfl (by intro x hx; go_simp; first | (rw [if_pos (by omega)]; done) | (rw [if_pos (by omega)]; rfl) | (intro hq; exfalso; omega) | (simp; omega)) ?_
       simp only [sA, sB]
       refine lv 4 (.bool ((ofB x0).Z (r2 - K))) rfl rfl (by intro x hx; have f0 := hx.fn 2 (r2 - K) rfl (by omega); rw [two_lo (by omega)] at f0; go_simp; (first | done | exact rfl)) ?_
       simp only [sA, sB]
       refine lv 5 (.pointer (some ⟨k2, 0, none⟩)) rfl rfl (by intro x hx; go_simp; (first | done | exact rfl)) ?_
       simp only [sA, sB]
       refine lv 6 (.pointer (some ⟨k2, r2, none⟩)) rfl rfl (by intro x hx; go_simp; first | (rw [if_pos (by omega)]; done) | (rw [if_pos (by omega)]; rfl) | (intro hq; exfalso; omega) | (simp; omega)) ?_
       simp only [sA, sB]
       refine lin_store (i := 7) (St w [⟨w.heap.size, [some (.int .u64 (tn (x0.lo))), some (.int .u64 (tn (x0.hi)))], 24⟩, ⟨w.heap.size + 1, [some (.int .u64 0), some (.int .u64 0)], 24⟩, ⟨k1, ((fnV 128 (two 64 (ofB x0).Z (ofB x0).O)).map some), 48⟩, ⟨k2, ((fnV 128 (upd (two 64 (upto r2 (movB true false (ofB x0) K).Z) (upto r2 (movB true false (ofB x0) K).O)) r2 ((ofB x0).Z (r2 - K)))).map some), 48⟩]) rfl rfl (by rfl) (fun x => x.setCell ⟨k2, r2, none⟩ (.bool ((ofB x0).Z (r2 - K)))) (by intro x hx; have z0 := hx.fn 3 (r2) rfl (by omega); have q0 := hx.soft 3 (r2) rfl; go_simp; (first | done | rfl)) (fun x hx => hx.fnset 3 (r2) ((ofB x0).Z (r2 - K)) rfl) ?_
       clear HS
       refine ld fun W13 HS => ?_
       go_upto_region 17 with fail
       refine lnb HS.out rfl ?_
       refine lm 0 11 rfl rfl rfl rfl ?_
       simp only [sA, sB]
       refine lm 1 12 rfl rfl rfl rfl ?_
       simp only [sA, sB]
       refine lv 2 (.pointer (some ⟨k1, 64, none⟩)) rfl rfl (by intro x hx; go_simp; (first | done | exact rfl)) ?_
       simp only [sA, sB]
       refine lv 3 (.pointer (some ⟨k1, 64 + (r2 - K), none⟩)) rfl rfl (by intro x hx; go_simp; first | (rw [if_pos (by omega)]; done) | (rw [if_pos (by omega)]; rfl) | (intro hq; exfalso; omega) | (simp; omega)) ?_
       simp only [sA, sB]
       refine lv 4 (.bool ((ofB x0).O (r2 - K))) rfl rfl (by intro x hx; have f0 := hx.fn 2 (64 + (r2 - K)) rfl (by omega); rw [two_hi] at f0; go_simp; (first | done | exact rfl)) ?_
       simp only [sA, sB]
       refine lv 5 (.pointer (some ⟨k2, 64, none⟩)) rfl rfl (by intro x hx; go_simp; (first | done | exact rfl)) ?_
       simp only [sA, sB]
       refine lv 6 (.pointer (some ⟨k2, 64 + r2, none⟩)) rfl rfl (by intro x hx; go_simp; first | (rw [if_pos (by omega)]; done) | (rw [if_pos (by omega)]; rfl) | (intro hq; exfalso; omega) | (simp; omega)) ?_
       simp only [sA, sB]
       refine lin_store (i := 7) (St w [⟨w.heap.size, [some (.int .u64 (tn (x0.lo))), some (.int .u64 (tn (x0.hi)))], 24⟩, ⟨w.heap.size + 1, [some (.int .u64 0), some (.int .u64 0)], 24⟩, ⟨k1, ((fnV 128 (two 64 (ofB x0).Z (ofB x0).O)).map some), 48⟩, ⟨k2, ((fnV 128 (upd (upd (two 64 (upto r2 (movB true false (ofB x0) K).Z) (upto r2 (movB true false (ofB x0) K).O)) r2 ((ofB x0).Z (r2 - K))) (64 + r2) ((ofB x0).O (r2 - K)))).map some), 48⟩]) rfl rfl (by rfl) (fun x => x.setCell ⟨k2, 64 + r2, none⟩ (.bool ((ofB x0).O (r2 - K)))) (by intro x hx; have z0 := hx.fn 3 (64 + r2) rfl (by omega); have q0 := hx.soft 3 (64 + r2) rfl; go_simp; (first | done | rfl)) (fun x hx => hx.fnset 3 (64 + r2) ((ofB x0).O (r2 - K)) rfl) ?_
       clear HS
       refine ld fun W14 HS => ?_
       go_upto_region 8 with fail
       refine lnb HS.out rfl ?_
       refine lm 0 11 rfl rfl rfl rfl ?_
       simp only [sA, sB]
       refine lv 1 (.int .i64 ((r2 + 1 : Nat) : Int)) rfl rfl (by intro x hx; go_simp; (first | done | exact addN r2 1 (by omega) | exact congrArg _ (addN r2 1 (by omega)) | (rw [addN r2 1 (by omega)]; done) | (rw [addN r2 1 (by omega)]; rfl))) ?_
       simp only [sA, sB]
       refine la 2 24 rfl rfl rfl rfl ?_
       simp only [sA, sB]
       clear HS
       refine ld fun W15 HS => ?_
       go_wp2
       first | exact ⟨hlt2, hid ⟨_, _, _, _, _, _, _, _, _, _, _, _, _, _, _, _, _, _, _, _, _, _, _, _, _, _, _, _, _, _, _, _, _, _, _, _, _, _, _, _, rfl, (by have h := HS.out; rw [upd_lo (by omega), upd_hi, upto_next (mov_zs (from_up h3.out)), upto_next (mov_os (from_up h3.out))] at h; exact h)⟩⟩ | exact hid ⟨_, _, _, _, _, _, _, _, _, _, _, _, _, _, _, _, _, _, _, _, _, _, _, _, _, _, _, _, _, _, _, _, _, _, _, _, _, _, _, _, rfl, (by have h := HS.out; rw [upd_lo (by omega), upd_hi, upto_next (mov_zs (from_up h3.out)), upto_next (mov_os (from_up h3.out))] at h; exact h)⟩ | exact (by have h := HS.out; rw [upd_lo (by omega), upd_hi, upto_next (mov_zs (from_up h3.out)), upto_next (mov_os (from_up h3.out))] at h; exact h)
      ·have hd3 := of_decide_eq_true h3; replace h3 := hid h3
       refine lin_no (i := 3) rfl rfl (by kernel_rfl) ?_
       simp only [sA, sB]
       refine lin_no (i := 4) rfl rfl (by kernel_rfl) ?_
       simp only [sA, sB]
       refine lv 5 (.bool true) rfl rfl (by intro x hx; go_simp; (first | done | exact rfl)) ?_
       simp only [sA, sB]
       clear HS
       refine ld fun W12 HS => ?_
       go_upto_region 15 with fail
       refine lnb HS.out rfl ?_
       refine lm 0 11 rfl rfl rfl rfl ?_
       simp only [sA, sB]
       refine lv 1 (.pointer (some ⟨k2, 0, none⟩)) rfl rfl (by intro x hx; go_simp; (first | done | exact rfl)) ?_
       simp only [sA, sB]
       refine lv 2 (.pointer (some ⟨k2, r2, none⟩)) rfl rfl (by intro x hx; go_simp; first | (rw [if_pos (by omega)]; done) | (rw [if_pos (by omega)]; rfl) | (intro hq; exfalso; omega) | (simp; omega)) ?_
       simp only [sA, sB]
       refine lin_store (i := 3) (St w [⟨w.heap.size, [some (.int .u64 (tn (x0.lo))), some (.int .u64 (tn (x0.hi)))], 24⟩, ⟨w.heap.size + 1, [some (.int .u64 0), some (.int .u64 0)], 24⟩, ⟨k1, ((fnV 128 (two 64 (ofB x0).Z (ofB x0).O)).map some), 48⟩, ⟨k2, ((fnV 128 (upd (two 64 (upto r2 (movB true false (ofB x0) K).Z) (upto r2 (movB true false (ofB x0) K).O)) r2 true)).map some), 48⟩]) rfl rfl (by rfl) (fun x => x.setCell ⟨k2, r2, none⟩ (.bool true)) (by intro x hx; have z0 := hx.fn 3 (r2) rfl (by omega); have q0 := hx.soft 3 (r2) rfl; go_simp; (first | done | rfl)) (fun x hx => hx.fnset 3 (r2) true rfl) ?_
       clear HS
       refine ld fun W13 HS => ?_
       go_upto_region 8 with fail
       refine lnb HS.out rfl ?_
       refine lm 0 11 rfl rfl rfl rfl ?_
       simp only [sA, sB]
       refine lv 1 (.int .i64 ((r2 + 1 : Nat) : Int)) rfl rfl (by intro x hx; go_simp; (first | done | exact addN r2 1 (by omega) | exact congrArg _ (addN r2 1 (by omega)) | (rw [addN r2 1 (by omega)]; done) | (rw [addN r2 1 (by omega)]; rfl))) ?_
       simp only [sA, sB]
       refine la 2 24 rfl rfl rfl rfl ?_
       simp only [sA, sB]
       clear HS
       refine ld fun W14 HS => ?_
       go_wp2
       first | exact ⟨hlt2, hid ⟨_, _, _, _, _, _, _, _, _, _, _, _, _, _, _, _, _, _, _, _, _, _, _, _, _, _, _, _, _, _, _, _, _, _, _, _, _, _, _, _, rfl, (by have h := HS.out; rw [upd_lo (by omega), upto_next (mov_zn (from_upno h3.out)), ← upto_skip (F := (movB true false (ofB x0) K).O) (mov_on (from_upno h3.out))] at h; exact h)⟩⟩ | exact hid ⟨_, _, _, _, _, _, _, _, _, _, _, _, _, _, _, _, _, _, _, _, _, _, _, _, _, _, _, _, _, _, _, _, _, _, _, _, _, _, _, _, rfl, (by have h := HS.out; rw [upd_lo (by omega), upto_next (mov_zn (from_upno h3.out)), ← upto_skip (F := (movB true false (ofB x0) K).O) (mov_on (from_upno h3.out))] at h; exact h)⟩ | exact (by have h := HS.out; rw [upd_lo (by omega), upto_next (mov_zn (from_upno h3.out)), ← upto_skip (F := (movB true false (ofB x0) K).O) (mov_on (from_upno h3.out))] at h; exact h)
     ·have hd2 := of_decide_eq_true h2; replace h2 := hid h2
      refine lv 3 (.bool false) rfl rfl (by intro x hx; go_simp; (first | done | exact rfl)) ?_
      simp only [sA, sB]
      refine lv 4 (.bool false) rfl rfl (by intro x hx; go_simp; (first | done | exact rfl)) ?_
      simp only [sA, sB]
      clear HS
      refine ld fun W11 HS => ?_
      go_upto_region 14 with fail
      refine lnb HS.out rfl ?_
      refine lm 0 12 rfl rfl rfl rfl ?_
      simp only [sA, sB]
      refine lv 1 (.bool ((decide (((r2 : Nat) : Int) - ((K : Nat) : Int) < 0)))) rfl rfl (by intro x hx; go_simp; (first | done | exact rfl | exact decide_eq_decide.2 (by omega))) ?_
      simp only [sA, sB]
      refine lm 2 38 rfl rfl rfl rfl ?_
      simp only [sA, sB]
      cases h3 : ((decide (((r2 : Nat) : Int) - ((K : Nat) : Int) < 0)))
      ·have hd3 := of_decide_eq_false h3; replace h3 := hid h3
       refine lv 3 (.int .i64 (((r2 : Nat) : Int) - ((K : Nat) : Int))) rfl rfl (by intro x hx; go_simp; (first | done | exact rfl)) ?_
       simp only [sA, sB]
       refine lv 4 (.bool ((decide (((r2 : Nat) : Int) - ((K : Nat) : Int) > 63)))) rfl rfl (by intro x hx; go_simp; (first | done | exact rfl | exact decide_eq_decide.2 (by omega))) ?_
       simp only [sA, sB]
       refine lv 5 (.bool ((decide (((r2 : Nat) : Int) - ((K : Nat) : Int) > 63)))) rfl rfl (by intro x hx; go_simp; (first | done | exact rfl)) ?_
       simp only [sA, sB]
       clear HS
       refine ld fun W12 HS => ?_
       rw [show ((decide (((r2 : Nat) : Int) - ((K : Nat) : Int) > 63))) = true from h2.out]
       rw [show (((r2 : Nat) : Int) - ((K : Nat) : Int) : Int) = ((r2 - K : Nat) : Int) from (by have := of_decide_eq_false h3.out; omega)]
       go_upto_region 15 with fail
       refine lnb HS.out rfl ?_
       refine lm 0 11 rfl rfl rfl rfl ?_
       simp only [sA, sB]
       refine lv 1 (.pointer (some ⟨k2, 0, none⟩)) rfl rfl (by intro x hx; go_simp; (first | done | exact rfl)) ?_
       simp only [sA, sB]
       refine lv 2 (.pointer (some ⟨k2, r2, none⟩)) rfl rfl (by intro x hx; go_simp; first | (rw [if_pos (by omega)]; done) | (rw [if_pos (by omega)]; rfl) | (intro hq; exfalso; omega) | (simp; omega)) ?_
       simp only [sA, sB]
       refine lin_store (i := 3) (St w [⟨w.heap.size, [some (.int .u64 (tn (x0.lo))), some (.int .u64 (tn (x0.hi)))], 24⟩, ⟨w.heap.size + 1, [some (.int .u64 0), some (.int .u64 0)], 24⟩, ⟨k1, ((fnV 128 (two 64 (ofB x0).Z (ofB x0).O)).map some), 48⟩, ⟨k2, ((fnV 128 (upd (two 64 (upto r2 (movB true false (ofB x0) K).Z) (upto r2 (movB true false (ofB x0) K).O)) r2 true)).map some), 48⟩]) rfl rfl (by rfl) (fun x => x.setCell ⟨k2, r2, none⟩ (.bool true)) (by intro x hx; have z0 := hx.fn 3 (r2) rfl (by omega); have q0 := hx.soft 3 (r2) rfl; go_simp; (first | done | rfl)) (fun x hx => hx.fnset 3 (r2) true rfl) ?_
       clear HS
       refine ld fun W13 HS => ?_
       go_upto_region 8 with fail
       refine lnb HS.out rfl ?_
       refine lm 0 11 rfl rfl rfl rfl ?_
       simp only [sA, sB]
       refine lv 1 (.int .i64 ((r2 + 1 : Nat) : Int)) rfl rfl (by intro x hx; go_simp; (first | done | exact addN r2 1 (by omega) | exact congrArg _ (addN r2 1 (by omega)) | (rw [addN r2 1 (by omega)]; done) | (rw [addN r2 1 (by omega)]; rfl))) ?_
       simp only [sA, sB]
       refine la 2 24 rfl rfl rfl rfl ?_
       simp only [sA, sB]
       clear HS
       refine ld fun W14 HS => ?_
       go_wp2
       first | exact ⟨hlt2, hid ⟨_, _, _, _, _, _, _, _, _, _, _, _, _, _, _, _, _, _, _, _, _, _, _, _, _, _, _, _, _, _, _, _, _, _, _, _, _, _, _, _, rfl, (by exfalso; have := of_decide_eq_true h2.out; omega)⟩⟩ | exact hid ⟨_, _, _, _, _, _, _, _, _, _, _, _, _, _, _, _, _, _, _, _, _, _, _, _, _, _, _, _, _, _, _, _, _, _, _, _, _, _, _, _, rfl, (by exfalso; have := of_decide_eq_true h2.out; omega)⟩ | exact (by exfalso; have := of_decide_eq_true h2.out; omega)
      ·have hd3 := of_decide_eq_true h3; replace h3 := hid h3
       refine lin_no (i := 3) rfl rfl (by kernel_rfl) ?_
       simp only [sA, sB]
       refine lin_no (i := 4) rfl rfl (by kernel_rfl) ?_
       simp only [sA, sB]
       refine lv 5 (.bool true) rfl rfl (by intro x hx; go_simp; (first | done | exact rfl)) ?_
       simp only [sA, sB]
       clear HS
       refine ld fun W12 HS => ?_
       go_upto_region 15 with fail
       refine lnb HS.out rfl ?_
       refine lm 0 11 rfl rfl rfl rfl ?_
       simp only [sA, sB]
       refine lv 1 (.pointer (some ⟨k2, 0, none⟩)) rfl rfl (by intro x hx; go_simp; (first | done | exact rfl)) ?_
       simp only [sA, sB]
       refine lv 2 (.pointer (some ⟨k2, r2, none⟩)) rfl rfl (by intro x hx; go_simp; first | (rw [if_pos (by omega)]; done) | (rw [if_pos (by omega)]; rfl) | (intro hq; exfalso; omega) | (simp; omega)) ?_
       simp only [sA, sB]
       refine lin_store (i := 3) (St w [⟨w.heap.size, [some (.int .u64 (tn (x0.lo))), some (.int .u64 (tn (x0.hi)))], 24⟩, ⟨w.heap.size + 1, [some (.int .u64 0), some (.int .u64 0)], 24⟩, ⟨k1, ((fnV 128 (two 64 (ofB x0).Z (ofB x0).O)).map some), 48⟩, ⟨k2, ((fnV 128 (upd (two 64 (upto r2 (movB true false (ofB x0) K).Z) (upto r2 (movB true false (ofB x0) K).O)) r2 true)).map some), 48⟩]) rfl rfl (by rfl) (fun x => x.setCell ⟨k2, r2, none⟩ (.bool true)) (by intro x hx; have z0 := hx.fn 3 (r2) rfl (by omega); have q0 := hx.soft 3 (r2) rfl; go_simp; (first | done | rfl)) (fun x hx => hx.fnset 3 (r2) true rfl) ?_
       clear HS
       refine ld fun W13 HS => ?_
       go_upto_region 8 with fail
       refine lnb HS.out rfl ?_
       refine lm 0 11 rfl rfl rfl rfl ?_
       simp only [sA, sB]
       refine lv 1 (.int .i64 ((r2 + 1 : Nat) : Int)) rfl rfl (by intro x hx; go_simp; (first | done | exact addN r2 1 (by omega) | exact congrArg _ (addN r2 1 (by omega)) | (rw [addN r2 1 (by omega)]; done) | (rw [addN r2 1 (by omega)]; rfl))) ?_
       simp only [sA, sB]
       refine la 2 24 rfl rfl rfl rfl ?_
       simp only [sA, sB]
       clear HS
       refine ld fun W14 HS => ?_
       go_wp2
       first | exact ⟨hlt2, hid ⟨_, _, _, _, _, _, _, _, _, _, _, _, _, _, _, _, _, _, _, _, _, _, _, _, _, _, _, _, _, _, _, _, _, _, _, _, _, _, _, _, rfl, (by exfalso; have := of_decide_eq_true h2.out; omega)⟩⟩ | exact hid ⟨_, _, _, _, _, _, _, _, _, _, _, _, _, _, _, _, _, _, _, _, _, _, _, _, _, _, _, _, _, _, _, _, _, _, _, _, _, _, _, _, rfl, (by exfalso; have := of_decide_eq_true h2.out; omega)⟩ | exact (by exfalso; have := of_decide_eq_true h2.out; omega)
   · have hN2 := hid (show r2 = 64 by omega)
     replace HS := hid (show St w [⟨w.heap.size, [some (.int .u64 (tn (x0.lo))), some (.int .u64 (tn (x0.hi)))], 24⟩, ⟨w.heap.size + 1, [some (.int .u64 0), some (.int .u64 0)], 24⟩, ⟨k1, ((fnV 128 (two 64 (ofB x0).Z (ofB x0).O)).map some), 48⟩, ⟨k2, ((fnV 128 (two 64 (movB true false (ofB x0) K).Z (movB true false (ofB x0) K).O)).map some), 48⟩] W from (by have h := HS.out; rw [hN2.out, bits_all] at h; exact h))
     go_upto_region 7 with fail
     refine lnb HS.out rfl ?_
     refine lm 0 11 rfl rfl rfl rfl ?_
     simp only [sA, sB]
     refine lv 1 (.bool false) rfl rfl (by intro x hx; go_simp; (first | done | omega | (simp; omega))) ?_
     simp only [sA, sB]
     clear HS
     refine ld fun W7 HS => ?_
     go_upto_region 18 with fail
     refine lnb HS.out rfl ?_
     refine lv 0 (.agg (fnV 128 (two 64 (movB true false (ofB x0) K).Z (movB true false (ofB x0) K).O)).toArray) rfl rfl (by intro x hx; exact loadF hx 3 rfl rfl rfl (fun w => by kernel_rfl) (fun w => by kernel_rfl)) ?_
     simp only [sA, sB]
     refine lc 1 44 #[.agg (fnV 128 (two 64 (movB true false (ofB x0) K).Z (movB true false (ofB x0) K).O)).toArray] (vU (tnumB (movB true false (ofB x0) K))) rfl rfl (by intro x hx; exact ref_Tnum_any (movB true false (ofB x0) K) _) ?_
     simp only [sA, sB, vU]
     refine ls 2 1 0 (cU (tnumB (movB true false (ofB x0) K))) rfl rfl rfl (by intro x hx; obtain ⟨⟨_, z0, q0⟩, ⟨_, z1, q1⟩⟩ := hx.at2 1 0 rfl; go_simp; (first | done | rfl)) ?_
     simp only [Blk.putC, setM, cU, sA, sB]
     clear HS
     refine ld fun W8 HS => ?_
     go_wp2
     obtain ⟨r0, r1⟩ := HS.out.two 1 0 rfl rfl
     exact bodyPost_ret (v := vU (tnumB (movB true false (ofB x0) K))) (by simp [results, Tryd.results24, go_sem, r0, r1, vU]) rfl ⟨rfl, HS.out.below⟩
set_option maxRecDepth 100000 in
set_option maxHeartbeats 1000000 in
theorem ref_Moved_false_false (x0 : P) (x1 : BitVec 64)   (w : World) :
    Calls Tryd.prog 24 #[vU x0, .int .i64 (ti (x1)), .bool false, .bool false] w fun e w' => e = .returned (vU (tnumB (movB false false (ofB x0) (x1 % 64#64).toNat))) ∧ Below w.heap.size w w' := by
  have hz48 := zero_48
  simp only [vU]
  obtain ⟨K, hK⟩ : ∃ K, K = (x1 % 64#64).toNat := ⟨_, rfl⟩
  have hK64 : K < 64 := by rw [hK]; exact mod64' x1
  have HM := mov_rem x1
  rw [← hK] at HM ⊢
  replace HM := hid HM
  have HK := hid hK
  clear hK
  go_enter Tryd.func24, Tryd.ntmps24
  have HS : Hid (St w [⟨w.heap.size, [some (.int .u64 (tn (x0.lo))), some (.int .u64 (tn (x0.hi)))], 24⟩, ⟨w.heap.size + 1, [some (.int .u64 0), some (.int .u64 0)], 24⟩] _) := hid (((st_nil w).alloc (k := w.heap.size) rfl [.int .u64 (tn (x0.lo)), .int .u64 (tn (x0.hi))] 24).alloc (k := w.heap.size + 1) (by simp) [.int .u64 0, .int .u64 0] 24)
  go_upto_region 1 with fail
  refine lnb HS.out rfl ?_
  refine lm 0 1 rfl rfl rfl rfl ?_
  simp only [sA, sB]
  refine lv 1 (.int .i64 ((ti x1).tmod 64)) rfl rfl (by intro x hx; go_simp; (first | done | exact rfl)) ?_
  simp only [sA, sB]
  refine la 2 14 rfl rfl rfl rfl ?_
  simp only [sA, sB]
  clear HS
  refine ld fun W1 HS => ?_
  go_upto_region 2 with fail
  refine lnb HS.out rfl ?_
  refine lm 0 1 rfl rfl rfl rfl ?_
  simp only [sA, sB]
  refine lv 1 (.bool ((decide ((ti x1).tmod 64 < 0)))) rfl rfl (by intro x hx; go_simp; (first | done | exact rfl | exact decide_eq_decide.2 (by omega))) ?_
  simp only [sA, sB]
  clear HS
  refine ld fun W2 HS => ?_
  cases h1 : ((decide ((ti x1).tmod 64 < 0)))
  ·have hd1 := of_decide_eq_false h1; replace h1 := hid h1
   rw [show ((ti x1).tmod 64 : Int) = ((K : Nat) : Int) from mov_id HM.out (by omega) h1.out]
   go_upto_region 4 with fail
   refine lnb HS.out rfl ?_
   refine lv 0 (vU x0) rfl rfl (by intro x hx; obtain ⟨f0, f1⟩ := hx.two 0 0 rfl rfl; go_simp; (first | done | exact rfl)) ?_
   simp only [sA, sB, vU]
   refine lc 1 43 #[vU x0] (.agg (fnV 128 (two 64 (ofB x0).Z (ofB x0).O)).toArray) rfl rfl (by intro x hx; exact ref_Of_any x0 _) ?_
   simp only [sA, sB]
   refine lin_new (i := 2) rfl rfl (by rfl) (fnV 128 (fun _ => false)) 48 (fun k => .pointer (some ⟨k, 0, none⟩)) ((fnV 128 (fun _ => false)).map some) (lessC_refl _) (by intro x hx; go_simp; (first | done | exact rfl)) (fun k1 => ?_)
   simp only [sA, sB, sC, sD]
   refine lin_store (i := 3) (St w [⟨w.heap.size, [some (.int .u64 (tn (x0.lo))), some (.int .u64 (tn (x0.hi)))], 24⟩, ⟨w.heap.size + 1, [some (.int .u64 0), some (.int .u64 0)], 24⟩, ⟨k1, ((fnV 128 (two 64 (ofB x0).Z (ofB x0).O)).map some), 48⟩]) rfl rfl (by rfl) (fun x => x.setCells k1 0 (fnV 128 (two 64 (ofB x0).Z (ofB x0).O))) (by intro x hx; exact storeF hx 2 rfl (by simp [fnV_len]) (fnV_one _ _) rfl rfl rfl (fun w => by rw [fnV_len]; kernel_rfl)) (fun x hx => hx.putF 2 _ rfl (by simp [fnV_len])) ?_
   clear HS
   refine ld fun W3 HS => ?_
   go_upto_region 5 with fail
   refine lnb HS.out rfl ?_
   refine lin_new (i := 0) rfl rfl (by rfl) (fnV 128 (fun _ => false)) 48 (fun k => .pointer (some ⟨k, 0, none⟩)) ((fnV 128 (fun _ => false)).map some) (lessC_refl _) (by intro x hx; go_simp; (first | done | exact rfl)) (fun k2 => ?_)
   simp only [sA, sB, sC, sD]
   clear HS
   refine ld fun W4 HS => ?_
   go_upto_region 6 with fail
   refine lnb HS.out rfl ?_
   refine lv 0 (.int .i64 0) rfl rfl (by intro x hx; go_simp; (first | done | exact rfl)) ?_
   simp only [sA, sB]
   clear HS
   refine ld fun W5 HS => ?_
   go_wp2
   refine loop_up 64 (fun k a W => Hid (∃ u1_12 u1_21 u1_22 u1_23 u1_24 u1_25 u1_26 u1_27 u1_28 u1_29 u1_30 u1_31 u1_32 u1_33 u1_34 u1_35 u1_36 u1_37 u1_38 u1_39 u1_40 u1_41 u1_42 u1_43 u1_44 u1_45 u1_46 u1_47 u1_48 u1_49 u1_50 u1_51 u1_52 u1_53 u1_54 u1_55 u1_56 u1_57 u1_58 u1_59 : Value, a = Act.mk [vU x0, .int .i64 ((K : Nat) : Int), .bool false, .bool false, .pointer (some ⟨w.heap.size, 0, none⟩), undef, undef, undef, .pointer (some ⟨w.heap.size + 1, 0, none⟩), .pointer (some ⟨k1, 0, none⟩), .pointer (some ⟨k2, 0, none⟩), .int .i64 ((k : Nat) : Int), u1_12, .int .i64 (ti (x1)), .int .i64 ((K : Nat) : Int), .int .i64 ((K : Nat) : Int), .bool false, undef, undef, vU x0, .agg (fnV 128 (two 64 (ofB x0).Z (ofB x0).O)).toArray, u1_21, u1_22, u1_23, u1_24, u1_25, u1_26, u1_27, u1_28, u1_29, u1_30, u1_31, u1_32, u1_33, u1_34, u1_35, u1_36, u1_37, u1_38, u1_39, u1_40, u1_41, u1_42, u1_43, u1_44, u1_45, u1_46, u1_47, u1_48, u1_49, u1_50, u1_51, u1_52, u1_53, u1_54, u1_55, u1_56, u1_57, u1_58, u1_59, undef, undef].toArray [] ∧ St w [⟨w.heap.size, [some (.int .u64 (tn (x0.lo))), some (.int .u64 (tn (x0.hi)))], 24⟩, ⟨w.heap.size + 1, [some (.int .u64 0), some (.int .u64 0)], 24⟩, ⟨k1, ((fnV 128 (two 64 (ofB x0).Z (ofB x0).O)).map some), 48⟩, ⟨k2, ((fnV 128 (two 64 (upto k (movB false false (ofB x0) K).Z) (upto k (movB false false (ofB x0) K).O))).map some), 48⟩] W)) (hid ⟨(undef), (undef), (undef), (undef), (undef), (undef), (undef), (undef), (undef), (undef), (undef), (undef), (undef), (undef), (undef), (undef), (undef), (undef), (undef), (undef), (undef), (undef), (undef), (undef), (undef), (undef), (undef), (undef), (undef), (undef), (undef), (undef), (undef), (undef), (undef), (undef), (undef), (undef), (undef), (undef), rfl, (by have h := HS.out; rw [← bits_none (movB false false (ofB x0) K).Z (movB false false (ofB x0) K).O] at h; exact h)⟩) (fun r1 a W hr hR => ?_)
   obtain ⟨u1_12, u1_21, u1_22, u1_23, u1_24, u1_25, u1_26, u1_27, u1_28, u1_29, u1_30, u1_31, u1_32, u1_33, u1_34, u1_35, u1_36, u1_37, u1_38, u1_39, u1_40, u1_41, u1_42, u1_43, u1_44, u1_45, u1_46, u1_47, u1_48, u1_49, u1_50, u1_51, u1_52, u1_53, u1_54, u1_55, u1_56, u1_57, u1_58, u1_59, rfl, hS⟩ := hR.out
   replace HS := hid hS
   clear hS hR
   by_cases hlt1 : r1 < 64
   · -- round
     go_upto_region 7 with fail
     refine lnb HS.out rfl ?_
     refine lm 0 11 rfl rfl rfl rfl ?_
     simp only [sA, sB]
     refine lv 1 (.bool true) rfl rfl (by intro x hx; go_simp; (first | done | omega | (simp; omega))) ?_
     simp only [sA, sB]
     clear HS
     refine ld fun W6 HS => ?_
     go_upto_region 9 with fail
     refine lnb HS.out rfl ?_
     refine lm 0 11 rfl rfl rfl rfl ?_
     simp only [sA, sB]
     refine lm 1 1 rfl rfl rfl rfl ?_
     simp only [sA, sB]
     refine lv 2 (.int .i64 ((r1 + K : Nat) : Int)) rfl rfl (by intro x hx; go_simp; (first | done | exact addN r1 K (by omega) | exact congrArg _ (addN r1 K (by omega)) | (rw [addN r1 K (by omega)]; done) | (rw [addN r1 K (by omega)]; rfl))) ?_
     simp only [sA, sB]
     refine la 3 27 rfl rfl rfl rfl ?_
     simp only [sA, sB]
     clear HS
     refine ld fun W7 HS => ?_
     go_upto_region 10 with fail
     refine lnb HS.out rfl ?_
     refine lm 0 2 rfl rfl rfl rfl ?_
     simp only [sA, sB]
     clear HS
     refine ld fun W8 HS => ?_
     go_upto_region 12 with fail
     refine lnb HS.out rfl ?_
     refine lm 0 12 rfl rfl rfl rfl ?_
     simp only [sA, sB]
     refine lv 1 (.bool ((decide ((r1 + K) > 63)))) rfl rfl (by intro x hx; go_simp; (first | done | exact decide_eq_decide.2 (by omega) | omega | (trace_state; sorry))) ?_
     simp only [sA, sB]
     refine lm 2 33 rfl rfl rfl rfl ?_
     simp only [sA, sB]
     cases h2 : ((decide ((r1 + K) > 63)))
     ·have hd2 := of_decide_eq_false h2; replace h2 := hid h2
      refine lin_no (i := 3) rfl rfl (by kernel_rfl) ?_
      simp only [sA, sB]
      refine lv 4 (.bool false) rfl rfl (by intro x hx; go_simp; (first | done | exact rfl)) ?_
      simp only [sA, sB]
      clear HS
      refine ld fun W9 HS => ?_
      go_upto_region 14 with fail
      refine lnb HS.out rfl ?_
      refine lm 0 12 rfl rfl rfl rfl ?_
      simp only [sA, sB]
      refine lv 1 (.bool ((decide ((r1 + K) < 0)))) rfl rfl (by intro x hx; go_simp; (first | done | exact decide_eq_decide.2 (by omega) | omega | (trace_state; sorry))) ?_
      simp only [sA, sB]
      refine lm 2 38 rfl rfl rfl rfl ?_
      simp only [sA, sB]
      cases h3 : ((decide ((r1 + K) < 0)))
      ·have hd3 := of_decide_eq_false h3; replace h3 := hid h3
       refine lv 3 (.int .i64 ((r1 + K : Nat) : Int)) rfl rfl (by intro x hx; go_simp; (first | done | exact rfl)) ?_
       simp only [sA, sB]
       refine lv 4 (.bool ((decide ((r1 + K) > 63)))) rfl rfl (by intro x hx; go_simp; (first | done | exact decide_eq_decide.2 (by omega) | omega | (trace_state; sorry))) ?_
       simp only [sA, sB]
       refine lv 5 (.bool ((decide ((r1 + K) > 63)))) rfl rfl (by intro x hx; go_simp; (first | done | exact rfl)) ?_
       simp only [sA, sB]
       clear HS
       refine ld fun W10 HS => ?_
       rw [show ((decide ((r1 + K) > 63))) = false from h2.out]
       go_upto_region 16 with fail
       refine lnb HS.out rfl ?_
       refine lm 0 11 rfl rfl rfl rfl ?_
       simp only [sA, sB]
       refine lm 1 12 rfl rfl rfl rfl ?_
       simp only [sA, sB]
       refine lv 2 (.pointer (some ⟨k1, 0, none⟩)) rfl rfl (by intro x hx; go_simp; (first | done | exact rfl)) ?_
       simp only [sA, sB]
       refine lv 3 (.pointer (some ⟨k1, r1 + K, none⟩)) rfl rfl (by intro x hx; go_simp; first | (rw [if_pos (by omega)]; done) | (rw [if_pos (by omega)]; rfl) | (intro hq; exfalso; omega) | (simp; omega)) ?_
       simp only [sA, sB]
       refine lv 4 (.bool ((ofB x0).Z (r1 + K))) rfl rfl (by intro x hx; have f0 := hx.fn 2 (r1 + K) rfl (by omega); rw [two_lo (by omega)] at f0; go_simp; (first | done | exact rfl)) ?_
       simp only [sA, sB]
       refine lv 5 (.pointer (some ⟨k2, 0, none⟩)) rfl rfl (by intro x hx; go_simp; (first | done | exact rfl)) ?_
       simp only [sA, sB]
       refine lv 6 (.pointer (some ⟨k2, r1, none⟩)) rfl rfl (by intro x hx; go_simp; first | (rw [if_pos (by omega)]; done) | (rw [if_pos (by omega)]; rfl) | (intro hq; exfalso; omega) | (simp; omega)) ?_
       simp only [sA, sB]
       refine lin_store (i := 7) (St w [⟨w.heap.size, [some (.int .u64 (tn (x0.lo))), some (.int .u64 (tn (x0.hi)))], 24⟩, ⟨w.heap.size + 1, [some (.int .u64 0), some (.int .u64 0)], 24⟩, ⟨k1, ((fnV 128 (two 64 (ofB x0).Z (ofB x0).O)).map some), 48⟩, ⟨k2, ((fnV 128 (upd (two 64 (upto r1 (movB false false (ofB x0) K).Z) (upto r1 (movB false false (ofB x0) K).O)) r1 ((ofB x0).Z (r1 + K)))).map some), 48⟩]) rfl rfl (by rfl) (fun x => x.setCell ⟨k2, r1, none⟩ (.bool ((ofB x0).Z (r1 + K)))) (by intro x hx; have z0 := hx.fn 3 (r1) rfl (by omega); have q0 := hx.soft 3 (r1) rfl; go_simp; (first | done | rfl)) (fun x hx => hx.fnset 3 (r1) ((ofB x0).Z (r1 + K)) rfl) ?_
       clear HS
       refine ld fun W11 HS => ?_
       go_upto_region 17 with fail
       refine lnb HS.out rfl ?_
       refine lm 0 11 rfl rfl rfl rfl ?_
       simp only [sA, sB]
       refine lm 1 12 rfl rfl rfl rfl ?_
       simp only [sA, sB]
       refine lv 2 (.pointer (some ⟨k1, 64, none⟩)) rfl rfl (by intro x hx; go_simp; (first | done | exact rfl)) ?_
       simp only [sA, sB]
       refine lv 3 (.pointer (some ⟨k1, 64 + (r1 + K), none⟩)) rfl rfl (by intro x hx; go_simp; first | (rw [if_pos (by omega)]; done) | (rw [if_pos (by omega)]; rfl) | (intro hq; exfalso; omega) | (simp; omega)) ?_
       simp only [sA, sB]
       refine lv 4 (.bool ((ofB x0).O (r1 + K))) rfl rfl (by intro x hx; have f0 := hx.fn 2 (64 + (r1 + K)) rfl (by omega); rw [two_hi] at f0; go_simp; (first | done | exact rfl)) ?_
       simp only [sA, sB]
       refine lv 5 (.pointer (some ⟨k2, 64, none⟩)) rfl rfl (by intro x hx; go_simp; (first | done | exact rfl)) ?_
       simp only [sA, sB]
       refine lv 6 (.pointer (some ⟨k2, 64 + r1, none⟩)) rfl rfl (by intro x hx; go_simp; first | (rw [if_pos (by omega)]; done) | (rw [if_pos (by omega)]; rfl) | (intro hq; exfalso; omega) | (simp; omega)) ?_
       simp only [sA, sB]
       refine lin_store (i := 7) (St w [⟨w.heap.size, [some (.int .u64 (tn (x0.lo))), some (.int .u64 (tn (x0.hi)))], 24⟩, ⟨w.heap.size + 1, [some (.int .u64 0), some (.int .u64 0)], 24⟩, ⟨k1, ((fnV 128 (two 64 (ofB x0).Z (ofB x0).O)).map some), 48⟩, ⟨k2, ((fnV 128 (upd (upd (two 64 (upto r1 (movB false false (ofB x0) K).Z) (upto r1 (movB false false (ofB x0) K).O)) r1 ((ofB x0).Z (r1 + K))) (64 + r1) ((ofB x0).O (r1 + K)))).map some), 48⟩]) rfl rfl (by rfl) (fun x => x.setCell ⟨k2, 64 + r1, none⟩ (.bool ((ofB x0).O (r1 + K)))) (by intro x hx; have z0 := hx.fn 3 (64 + r1) rfl (by omega); have q0 := hx.soft 3 (64 + r1) rfl; go_simp; (first | done | rfl)) (fun x hx => hx.fnset 3 (64 + r1) ((ofB x0).O (r1 + K)) rfl) ?_
       clear HS
       refine ld fun W12 HS => ?_
       go_upto_region 8 with fail
       refine lnb HS.out rfl ?_
       refine lm 0 11 rfl rfl rfl rfl ?_
       simp only [sA, sB]
       refine lv 1 (.int .i64 ((r1 + 1 : Nat) : Int)) rfl rfl (by intro x hx; go_simp; (first | done | exact addN r1 1 (by omega) | exact congrArg _ (addN r1 1 (by omega)) | (rw [addN r1 1 (by omega)]; done) | (rw [addN r1 1 (by omega)]; rfl))) ?_
       simp only [sA, sB]
       refine la 2 24 rfl rfl rfl rfl ?_
       simp only [sA, sB]
       clear HS
       refine ld fun W13 HS => ?_
       go_wp2
       first | exact ⟨hlt1, hid ⟨_, _, _, _, _, _, _, _, _, _, _, _, _, _, _, _, _, _, _, _, _, _, _, _, _, _, _, _, _, _, _, _, _, _, _, _, _, _, _, _, rfl, (by have h := HS.out; rw [upd_lo (by omega), upd_hi, upto_next (mov_zs (from_dn h2.out)), upto_next (mov_os (from_dn h2.out))] at h; exact h)⟩⟩ | exact hid ⟨_, _, _, _, _, _, _, _, _, _, _, _, _, _, _, _, _, _, _, _, _, _, _, _, _, _, _, _, _, _, _, _, _, _, _, _, _, _, _, _, rfl, (by have h := HS.out; rw [upd_lo (by omega), upd_hi, upto_next (mov_zs (from_dn h2.out)), upto_next (mov_os (from_dn h2.out))] at h; exact h)⟩ | exact (by have h := HS.out; rw [upd_lo (by omega), upd_hi, upto_next (mov_zs (from_dn h2.out)), upto_next (mov_os (from_dn h2.out))] at h; exact h)
      ·have hd3 := of_decide_eq_true h3; replace h3 := hid h3
       refine lin_no (i := 3) rfl rfl (by kernel_rfl) ?_
       simp only [sA, sB]
       refine lin_no (i := 4) rfl rfl (by kernel_rfl) ?_
       simp only [sA, sB]
       refine lv 5 (.bool true) rfl rfl (by intro x hx; go_simp; (first | done | exact rfl)) ?_
       simp only [sA, sB]
       clear HS
       refine ld fun W10 HS => ?_
       go_upto_region 15 with fail
       refine lnb HS.out rfl ?_
       refine lm 0 11 rfl rfl rfl rfl ?_
       simp only [sA, sB]
       refine lv 1 (.pointer (some ⟨k2, 0, none⟩)) rfl rfl (by intro x hx; go_simp; (first | done | exact rfl)) ?_
       simp only [sA, sB]
       refine lv 2 (.pointer (some ⟨k2, r1, none⟩)) rfl rfl (by intro x hx; go_simp; first | (rw [if_pos (by omega)]; done) | (rw [if_pos (by omega)]; rfl) | (intro hq; exfalso; omega) | (simp; omega)) ?_
       simp only [sA, sB]
       refine lin_store (i := 3) (St w [⟨w.heap.size, [some (.int .u64 (tn (x0.lo))), some (.int .u64 (tn (x0.hi)))], 24⟩, ⟨w.heap.size + 1, [some (.int .u64 0), some (.int .u64 0)], 24⟩, ⟨k1, ((fnV 128 (two 64 (ofB x0).Z (ofB x0).O)).map some), 48⟩, ⟨k2, ((fnV 128 (upd (two 64 (upto r1 (movB false false (ofB x0) K).Z) (upto r1 (movB false false (ofB x0) K).O)) r1 true)).map some), 48⟩]) rfl rfl (by rfl) (fun x => x.setCell ⟨k2, r1, none⟩ (.bool true)) (by intro x hx; have z0 := hx.fn 3 (r1) rfl (by omega); have q0 := hx.soft 3 (r1) rfl; go_simp; (first | done | rfl)) (fun x hx => hx.fnset 3 (r1) true rfl) ?_
       clear HS
       refine ld fun W11 HS => ?_
       go_upto_region 8 with fail
       refine lnb HS.out rfl ?_
       refine lm 0 11 rfl rfl rfl rfl ?_
       simp only [sA, sB]
       refine lv 1 (.int .i64 ((r1 + 1 : Nat) : Int)) rfl rfl (by intro x hx; go_simp; (first | done | exact addN r1 1 (by omega) | exact congrArg _ (addN r1 1 (by omega)) | (rw [addN r1 1 (by omega)]; done) | (rw [addN r1 1 (by omega)]; rfl))) ?_
       simp only [sA, sB]
       refine la 2 24 rfl rfl rfl rfl ?_
       simp only [sA, sB]
       clear HS
       refine ld fun W12 HS => ?_
       go_wp2
       first | exact ⟨hlt1, hid ⟨_, _, _, _, _, _, _, _, _, _, _, _, _, _, _, _, _, _, _, _, _, _, _, _, _, _, _, _, _, _, _, _, _, _, _, _, _, _, _, _, rfl, (by exfalso; have := of_decide_eq_true h3.out; omega)⟩⟩ | exact hid ⟨_, _, _, _, _, _, _, _, _, _, _, _, _, _, _, _, _, _, _, _, _, _, _, _, _, _, _, _, _, _, _, _, _, _, _, _, _, _, _, _, rfl, (by exfalso; have := of_decide_eq_true h3.out; omega)⟩ | exact (by exfalso; have := of_decide_eq_true h3.out; omega)
     ·have hd2 := of_decide_eq_true h2; replace h2 := hid h2
      refine lv 3 (.bool false) rfl rfl (by intro x hx; go_simp; (first | done | exact rfl)) ?_
      simp only [sA, sB]
      refine lv 4 (.bool false) rfl rfl (by intro x hx; go_simp; (first | done | exact rfl)) ?_
      simp only [sA, sB]
      clear HS
      refine ld fun W9 HS => ?_
      go_upto_region 14 with fail
      refine lnb HS.out rfl ?_
      refine lm 0 12 rfl rfl rfl rfl ?_
      simp only [sA, sB]
      refine lv 1 (.bool ((decide ((r1 + K) < 0)))) rfl rfl (by intro x hx; go_simp; (first | done | exact decide_eq_decide.2 (by omega) | omega | (trace_state; sorry))) ?_
      simp only [sA, sB]
      refine lm 2 38 rfl rfl rfl rfl ?_
      simp only [sA, sB]
      cases h3 : ((decide ((r1 + K) < 0)))
      ·have hd3 := of_decide_eq_false h3; replace h3 := hid h3
       refine lv 3 (.int .i64 ((r1 + K : Nat) : Int)) rfl rfl (by intro x hx; go_simp; (first | done | exact rfl)) ?_
       simp only [sA, sB]
       refine lv 4 (.bool ((decide ((r1 + K) > 63)))) rfl rfl (by intro x hx; go_simp; (first | done | exact decide_eq_decide.2 (by omega) | omega | (trace_state; sorry))) ?_
       simp only [sA, sB]
       refine lv 5 (.bool ((decide ((r1 + K) > 63)))) rfl rfl (by intro x hx; go_simp; (first | done | exact rfl)) ?_
       simp only [sA, sB]
       clear HS
       refine ld fun W10 HS => ?_
       rw [show ((decide ((r1 + K) > 63))) = true from h2.out]
       go_upto_region 15 with fail
       refine lnb HS.out rfl ?_
       refine lm 0 11 rfl rfl rfl rfl ?_
       simp only [sA, sB]
       refine lv 1 (.pointer (some ⟨k2, 0, none⟩)) rfl rfl (by intro x hx; go_simp; (first | done | exact rfl)) ?_
       simp only [sA, sB]
       refine lv 2 (.pointer (some ⟨k2, r1, none⟩)) rfl rfl (by intro x hx; go_simp; first | (rw [if_pos (by omega)]; done) | (rw [if_pos (by omega)]; rfl) | (intro hq; exfalso; omega) | (simp; omega)) ?_
       simp only [sA, sB]
       refine lin_store (i := 3) (St w [⟨w.heap.size, [some (.int .u64 (tn (x0.lo))), some (.int .u64 (tn (x0.hi)))], 24⟩, ⟨w.heap.size + 1, [some (.int .u64 0), some (.int .u64 0)], 24⟩, ⟨k1, ((fnV 128 (two 64 (ofB x0).Z (ofB x0).O)).map some), 48⟩, ⟨k2, ((fnV 128 (upd (two 64 (upto r1 (movB false false (ofB x0) K).Z) (upto r1 (movB false false (ofB x0) K).O)) r1 true)).map some), 48⟩]) rfl rfl (by rfl) (fun x => x.setCell ⟨k2, r1, none⟩ (.bool true)) (by intro x hx; have z0 := hx.fn 3 (r1) rfl (by omega); have q0 := hx.soft 3 (r1) rfl; go_simp; (first | done | rfl)) (fun x hx => hx.fnset 3 (r1) true rfl) ?_
       clear HS
       refine ld fun W11 HS => ?_
       go_upto_region 8 with fail
       refine lnb HS.out rfl ?_
       refine lm 0 11 rfl rfl rfl rfl ?_
       simp only [sA, sB]
       refine lv 1 (.int .i64 ((r1 + 1 : Nat) : Int)) rfl rfl (by intro x hx; go_simp; (first | done | exact addN r1 1 (by omega) | exact congrArg _ (addN r1 1 (by omega)) | (rw [addN r1 1 (by omega)]; done) | (rw [addN r1 1 (by omega)]; rfl))) ?_
       simp only [sA, sB]
       refine la 2 24 rfl rfl rfl rfl ?_
       simp only [sA, sB]
       clear HS
       refine ld fun W12 HS => ?_
       go_wp2
       first | exact ⟨hlt1, hid ⟨_, _, _, _, _, _, _, _, _, _, _, _, _, _, _, _, _, _, _, _, _, _, _, _, _, _, _, _, _, _, _, _, _, _, _, _, _, _, _, _, rfl, (by have h := HS.out; rw [upd_lo (by omega), upto_next (mov_zn (from_dnno h2.out)), ← upto_skip (F := (movB false false (ofB x0) K).O) (mov_on (from_dnno h2.out))] at h; exact h)⟩⟩ | exact hid ⟨_, _, _, _, _, _, _, _, _, _, _, _, _, _, _, _, _, _, _, _, _, _, _, _, _, _, _, _, _, _, _, _, _, _, _, _, _, _, _, _, rfl, (by have h := HS.out; rw [upd_lo (by omega), upto_next (mov_zn (from_dnno h2.out)), ← upto_skip (F := (movB false false (ofB x0) K).O) (mov_on (from_dnno h2.out))] at h; exact h)⟩ | exact (by have h := HS.out; rw [upd_lo (by omega), upto_next (mov_zn (from_dnno h2.out)), ← upto_skip (F := (movB false false (ofB x0) K).O) (mov_on (from_dnno h2.out))] at h; exact h)
      ·have hd3 := of_decide_eq_true h3; replace h3 := hid h3
       refine lin_no (i := 3) rfl rfl (by kernel_rfl) ?_
       simp only [sA, sB]
       refine lin_no (i := 4) rfl rfl (by kernel_rfl) ?_
       simp only [sA, sB]
       refine lv 5 (.bool true) rfl rfl (by intro x hx; go_simp; (first | done | exact rfl)) ?_
       simp only [sA, sB]
       clear HS
       refine ld fun W10 HS => ?_
       go_upto_region 15 with fail
       refine lnb HS.out rfl ?_
       refine lm 0 11 rfl rfl rfl rfl ?_
       simp only [sA, sB]
       refine lv 1 (.pointer (some ⟨k2, 0, none⟩)) rfl rfl (by intro x hx; go_simp; (first | done | exact rfl)) ?_
       simp only [sA, sB]
       refine lv 2 (.pointer (some ⟨k2, r1, none⟩)) rfl rfl (by intro x hx; go_simp; first | (rw [if_pos (by omega)]; done) | (rw [if_pos (by omega)]; rfl) | (intro hq; exfalso; omega) | (simp; omega)) ?_
       simp only [sA, sB]
       refine lin_store (i := 3) (St w [⟨w.heap.size, [some (.int .u64 (tn (x0.lo))), some (.int .u64 (tn (x0.hi)))], 24⟩, ⟨w.heap.size + 1, [some (.int .u64 0), some (.int .u64 0)], 24⟩, ⟨k1, ((fnV 128 (two 64 (ofB x0).Z (ofB x0).O)).map some), 48⟩, ⟨k2, ((fnV 128 (upd (two 64 (upto r1 (movB false false (ofB x0) K).Z) (upto r1 (movB false false (ofB x0) K).O)) r1 true)).map some), 48⟩]) rfl rfl (by rfl) (fun x => x.setCell ⟨k2, r1, none⟩ (.bool true)) (by intro x hx; have z0 := hx.fn 3 (r1) rfl (by omega); have q0 := hx.soft 3 (r1) rfl; go_simp; (first | done | rfl)) (fun x hx => hx.fnset 3 (r1) true rfl) ?_
       clear HS
       refine ld fun W11 HS => ?_
       go_upto_region 8 with fail
       refine lnb HS.out rfl ?_
       refine lm 0 11 rfl rfl rfl rfl ?_
       simp only [sA, sB]
       refine lv 1 (.int .i64 ((r1 + 1 : Nat) : Int)) rfl rfl (by intro x hx; go_simp; (first | done | exact addN r1 1 (by omega) | exact congrArg _ (addN r1 1 (by omega)) | (rw [addN r1 1 (by omega)]; done) | (rw [addN r1 1 (by omega)]; rfl))) ?_
       simp only [sA, sB]
       refine la 2 24 rfl rfl rfl rfl ?_
       simp only [sA, sB]
       clear HS
       refine ld fun W12 HS => ?_
       go_wp2
       first | exact ⟨hlt1, hid ⟨_, _, _, _, _, _, _, _, _, _, _, _, _, _, _, _, _, _, _, _, _, _, _, _, _, _, _, _, _, _, _, _, _, _, _, _, _, _, _, _, rfl, (by exfalso; have := of_decide_eq_true h3.out; omega)⟩⟩ | exact hid ⟨_, _, _, _, _, _, _, _, _, _, _, _, _, _, _, _, _, _, _, _, _, _, _, _, _, _, _, _, _, _, _, _, _, _, _, _, _, _, _, _, rfl, (by exfalso; have := of_decide_eq_true h3.out; omega)⟩ | exact (by exfalso; have := of_decide_eq_true h3.out; omega)
   · have hN1 := hid (show r1 = 64 by omega)
     replace HS := hid (show St w [⟨w.heap.size, [some (.int .u64 (tn (x0.lo))), some (.int .u64 (tn (x0.hi)))], 24⟩, ⟨w.heap.size + 1, [some (.int .u64 0), some (.int .u64 0)], 24⟩, ⟨k1, ((fnV 128 (two 64 (ofB x0).Z (ofB x0).O)).map some), 48⟩, ⟨k2, ((fnV 128 (two 64 (movB false false (ofB x0) K).Z (movB false false (ofB x0) K).O)).map some), 48⟩] W from (by have h := HS.out; rw [hN1.out, bits_all] at h; exact h))
     go_upto_region 7 with fail
     refine lnb HS.out rfl ?_
     refine lm 0 11 rfl rfl rfl rfl ?_
     simp only [sA, sB]
     refine lv 1 (.bool false) rfl rfl (by intro x hx; go_simp; (first | done | omega | (simp; omega))) ?_
     simp only [sA, sB]
     clear HS
     refine ld fun W6 HS => ?_
     go_upto_region 18 with fail
     refine lnb HS.out rfl ?_
     refine lv 0 (.agg (fnV 128 (two 64 (movB false false (ofB x0) K).Z (movB false false (ofB x0) K).O)).toArray) rfl rfl (by intro x hx; exact loadF hx 3 rfl rfl rfl (fun w => by kernel_rfl) (fun w => by kernel_rfl)) ?_
     simp only [sA, sB]
     refine lc 1 44 #[.agg (fnV 128 (two 64 (movB false false (ofB x0) K).Z (movB false false (ofB x0) K).O)).toArray] (vU (tnumB (movB false false (ofB x0) K))) rfl rfl (by intro x hx; exact ref_Tnum_any (movB false false (ofB x0) K) _) ?_
     simp only [sA, sB, vU]
     refine ls 2 1 0 (cU (tnumB (movB false false (ofB x0) K))) rfl rfl rfl (by intro x hx; obtain ⟨⟨_, z0, q0⟩, ⟨_, z1, q1⟩⟩ := hx.at2 1 0 rfl; go_simp; (first | done | rfl)) ?_
     simp only [Blk.putC, setM, cU, sA, sB]
     clear HS
     refine ld fun W7 HS => ?_
     go_wp2
     obtain ⟨r0, r1⟩ := HS.out.two 1 0 rfl rfl
     exact bodyPost_ret (v := vU (tnumB (movB false false (ofB x0) K))) (by simp [results, Tryd.results24, go_sem, r0, r1, vU]) rfl ⟨rfl, HS.out.below⟩
  ·have hd1 := of_decide_eq_true h1; replace h1 := hid h1
   go_upto_region 3 with fail
   refine lnb HS.out rfl ?_
   refine lm 0 1 rfl rfl rfl rfl ?_
   simp only [sA, sB]
   refine lv 1 (.int .i64 ((K : Nat) : Int)) rfl rfl (by intro x hx; go_simp; (first | done | exact mov_add HM.out (by omega) h1.out)) ?_
   simp only [sA, sB]
   refine la 2 18 rfl rfl rfl rfl ?_
   simp only [sA, sB]
   clear HS
   refine ld fun W3 HS => ?_
   go_upto_region 4 with fail
   refine lnb HS.out rfl ?_
   refine lv 0 (vU x0) rfl rfl (by intro x hx; obtain ⟨f0, f1⟩ := hx.two 0 0 rfl rfl; go_simp; (first | done | exact rfl)) ?_
   simp only [sA, sB, vU]
   refine lc 1 43 #[vU x0] (.agg (fnV 128 (two 64 (ofB x0).Z (ofB x0).O)).toArray) rfl rfl (by intro x hx; exact ref_Of_any x0 _) ?_
   simp only [sA, sB]
   refine lin_new (i := 2) rfl rfl (by rfl) (fnV 128 (fun _ => false)) 48 (fun k => .pointer (some ⟨k, 0, none⟩)) ((fnV 128 (fun _ => false)).map some) (lessC_refl _) (by intro x hx; go_simp; (first | done | exact rfl)) (fun k1 => ?_)
   simp only [sA, sB, sC, sD]
   refine lin_store (i := 3) (St w [⟨w.heap.size, [some (.int .u64 (tn (x0.lo))), some (.int .u64 (tn (x0.hi)))], 24⟩, ⟨w.heap.size + 1, [some (.int .u64 0), some (.int .u64 0)], 24⟩, ⟨k1, ((fnV 128 (two 64 (ofB x0).Z (ofB x0).O)).map some), 48⟩]) rfl rfl (by rfl) (fun x => x.setCells k1 0 (fnV 128 (two 64 (ofB x0).Z (ofB x0).O))) (by intro x hx; exact storeF hx 2 rfl (by simp [fnV_len]) (fnV_one _ _) rfl rfl rfl (fun w => by rw [fnV_len]; kernel_rfl)) (fun x hx => hx.putF 2 _ rfl (by simp [fnV_len])) ?_
   clear HS
   refine ld fun W4 HS => ?_
   go_upto_region 5 with fail
   refine lnb HS.out rfl ?_
   refine lin_new (i := 0) rfl rfl (by rfl) (fnV 128 (fun _ => false)) 48 (fun k => .pointer (some ⟨k, 0, none⟩)) ((fnV 128 (fun _ => false)).map some) (lessC_refl _) (by intro x hx; go_simp; (first | done | exact rfl)) (fun k2 => ?_)
   simp only [sA, sB, sC, sD]
   clear HS
   refine ld fun W5 HS => ?_
   go_upto_region 6 with fail
   refine lnb HS.out rfl ?_
   refine lv 0 (.int .i64 0) rfl rfl (by intro x hx; go_simp; (first | done | exact rfl)) ?_
   simp only [sA, sB]
   clear HS
   refine ld fun W6 HS => ?_
   go_wp2
   refine loop_up 64 (fun k a W => Hid (∃ u2_12 u2_21 u2_22 u2_23 u2_24 u2_25 u2_26 u2_27 u2_28 u2_29 u2_30 u2_31 u2_32 u2_33 u2_34 u2_35 u2_36 u2_37 u2_38 u2_39 u2_40 u2_41 u2_42 u2_43 u2_44 u2_45 u2_46 u2_47 u2_48 u2_49 u2_50 u2_51 u2_52 u2_53 u2_54 u2_55 u2_56 u2_57 u2_58 u2_59 : Value, a = Act.mk [vU x0, .int .i64 ((K : Nat) : Int), .bool false, .bool false, .pointer (some ⟨w.heap.size, 0, none⟩), undef, undef, undef, .pointer (some ⟨w.heap.size + 1, 0, none⟩), .pointer (some ⟨k1, 0, none⟩), .pointer (some ⟨k2, 0, none⟩), .int .i64 ((k : Nat) : Int), u2_12, .int .i64 (ti (x1)), .int .i64 ((ti x1).tmod 64), .int .i64 ((ti x1).tmod 64), .bool true, .int .i64 ((ti x1).tmod 64), .int .i64 ((K : Nat) : Int), vU x0, .agg (fnV 128 (two 64 (ofB x0).Z (ofB x0).O)).toArray, u2_21, u2_22, u2_23, u2_24, u2_25, u2_26, u2_27, u2_28, u2_29, u2_30, u2_31, u2_32, u2_33, u2_34, u2_35, u2_36, u2_37, u2_38, u2_39, u2_40, u2_41, u2_42, u2_43, u2_44, u2_45, u2_46, u2_47, u2_48, u2_49, u2_50, u2_51, u2_52, u2_53, u2_54, u2_55, u2_56, u2_57, u2_58, u2_59, undef, undef].toArray [] ∧ St w [⟨w.heap.size, [some (.int .u64 (tn (x0.lo))), some (.int .u64 (tn (x0.hi)))], 24⟩, ⟨w.heap.size + 1, [some (.int .u64 0), some (.int .u64 0)], 24⟩, ⟨k1, ((fnV 128 (two 64 (ofB x0).Z (ofB x0).O)).map some), 48⟩, ⟨k2, ((fnV 128 (two 64 (upto k (movB false false (ofB x0) K).Z) (upto k (movB false false (ofB x0) K).O))).map some), 48⟩] W)) (hid ⟨(undef), (undef), (undef), (undef), (undef), (undef), (undef), (undef), (undef), (undef), (undef), (undef), (undef), (undef), (undef), (undef), (undef), (undef), (undef), (undef), (undef), (undef), (undef), (undef), (undef), (undef), (undef), (undef), (undef), (undef), (undef), (undef), (undef), (undef), (undef), (undef), (undef), (undef), (undef), (undef), rfl, (by have h := HS.out; rw [← bits_none (movB false false (ofB x0) K).Z (movB false false (ofB x0) K).O] at h; exact h)⟩) (fun r2 a W hr hR => ?_)
   obtain ⟨u2_12, u2_21, u2_22, u2_23, u2_24, u2_25, u2_26, u2_27, u2_28, u2_29, u2_30, u2_31, u2_32, u2_33, u2_34, u2_35, u2_36, u2_37, u2_38, u2_39, u2_40, u2_41, u2_42, u2_43, u2_44, u2_45, u2_46, u2_47, u2_48, u2_49, u2_50, u2_51, u2_52, u2_53, u2_54, u2_55, u2_56, u2_57, u2_58, u2_59, rfl, hS⟩ := hR.out
   replace HS := hid hS
   clear hS hR
   by_cases hlt2 : r2 < 64
   · -- round
     go_upto_region 7 with fail
     refine lnb HS.out rfl ?_
     refine lm 0 11 rfl rfl rfl rfl ?_
     simp only [sA, sB]
     refine lv 1 (.bool true) rfl rfl (by intro x hx; go_simp; (first | done | omega | (simp; omega))) ?_
     simp only [sA, sB]
     clear HS
     refine ld fun W7 HS => ?_
     go_upto_region 9 with fail
     refine lnb HS.out rfl ?_
     refine lm 0 11 rfl rfl rfl rfl ?_
     simp only [sA, sB]
     refine lm 1 1 rfl rfl rfl rfl ?_
     simp only [sA, sB]
     refine lv 2 (.int .i64 ((r2 + K : Nat) : Int)) rfl rfl (by intro x hx; go_simp; (first | done | exact addN r2 K (by omega) | exact congrArg _ (addN r2 K (by omega)) | (rw [addN r2 K (by omega)]; done) | (rw [addN r2 K (by omega)]; rfl))) ?_
     simp only [sA, sB]
     refine la 3 27 rfl rfl rfl rfl ?_
     simp only [sA, sB]
     clear HS
     refine ld fun W8 HS => ?_
     go_upto_region 10 with fail
     refine lnb HS.out rfl ?_
     refine lm 0 2 rfl rfl rfl rfl ?_
     simp only [sA, sB]
     clear HS
     refine ld fun W9 HS => ?_
     go_upto_region 12 with fail
     refine lnb HS.out rfl ?_
     refine lm 0 12 rfl rfl rfl rfl ?_
     simp only [sA, sB]
     refine lv 1 (.bool ((decide ((r2 + K) > 63)))) rfl rfl (by intro x hx; go_simp; (first | done | exact decide_eq_decide.2 (by omega) | omega | (trace_state; sorry))) ?_
     simp only [sA, sB]
     refine lm 2 33 rfl rfl rfl rfl ?_
     simp only [sA, sB]
     cases h2 : ((decide ((r2 + K) > 63)))
     ·have hd2 := of_decide_eq_false h2; replace h2 := hid h2
      refine lin_no (i := 3) rfl rfl (by kernel_rfl) ?_
      simp only [sA, sB]
      refine lv 4 (.bool false) rfl rfl (by intro x hx; go_simp; (first | done | exact rfl)) ?_
      simp only [sA, sB]
      clear HS
      refine ld fun W10 HS => ?_
      go_upto_region 14 with fail
      refine lnb HS.out rfl ?_
      refine lm 0 12 rfl rfl rfl rfl ?_
      simp only [sA, sB]
      refine lv 1 (.bool ((decide ((r2 + K) < 0)))) rfl rfl (by intro x hx; go_simp; (first | done | exact decide_eq_decide.2 (by omega) | omega | (trace_state; sorry))) ?_
      simp only [sA, sB]
      refine lm 2 38 rfl rfl rfl rfl ?_
      simp only [sA, sB]
      cases h3 : ((decide ((r2 + K) < 0)))
      ·have hd3 := of_decide_eq_false h3; replace h3 := hid h3
       refine lv 3 (.int .i64 ((r2 + K : Nat) : Int)) rfl rfl (by intro x hx; go_simp; (first | done | exact rfl)) ?_
       simp only [sA, sB]
       refine lv 4 (.bool ((decide ((r2 + K) > 63)))) rfl rfl (by intro x hx; go_simp; (first | done | exact decide_eq_decide.2 (by omega) | omega | (trace_state; sorry))) ?_
       simp only [sA, sB]
       refine lv 5 (.bool ((decide ((r2 + K) > 63)))) rfl rfl (by intro x hx; go_simp; (first | done | exact rfl)) ?_
       simp only [sA, sB]
       clear HS
       refine ld fun W11 HS => ?_
       rw [show ((decide ((r2 + K) > 63))) = false from h2.out]
       go_upto_region 16 with fail
       refine lnb HS.out rfl ?_
       refine lm 0 11 rfl rfl rfl rfl ?_
       simp only [sA, sB]
       refine lm 1 12 rfl rfl rfl rfl ?_
       simp only [sA, sB]
       refine lv 2 (.pointer (some ⟨k1, 0, none⟩)) rfl rfl (by intro x hx; go_simp; (first | done | exact rfl)) ?_
       simp only [sA, sB]
       refine lv 3 (.pointer (some ⟨k1, r2 + K, none⟩)) rfl rfl (by intro x hx; go_simp; first | (rw [if_pos (by omega)]; done) | (rw [if_pos (by omega)]; rfl) | (intro hq; exfalso; omega) | (simp; omega)) ?_
       simp only [sA, sB]
       refine lv 4 (.bool ((ofB x0).Z (r2 + K))) rfl rfl (by intro x hx; have f0 := hx.fn 2 (r2 + K) rfl (by omega); rw [two_lo (by omega)] at f0; go_simp; (first | done | exact rfl)) ?_
       simp only [sA, sB]
       refine lv 5 (.pointer (some ⟨k2, 0, none⟩)) rfl rfl (by intro x hx; go_simp; (first | done | exact rfl)) ?_
       simp only [sA, sB]
       refine lv 6 (.pointer (some ⟨k2, r2, none⟩)) rfl rfl (by intro x hx; go_simp; first | (rw [if_pos (by omega)]; done) | (rw [if_pos (by omega)]; rfl) | (intro hq; exfalso; omega) | (simp; omega)) ?_
       simp only [sA, sB]
       refine lin_store (i := 7) (St w [⟨w.heap.size, [some (.int .u64 (tn (x0.lo))), some (.int .u64 (tn (x0.hi)))], 24⟩, ⟨w.heap.size + 1, [some (.int .u64 0), some (.int .u64 0)], 24⟩, ⟨k1, ((fnV 128 (two 64 (ofB x0).Z (ofB x0).O)).map some), 48⟩, ⟨k2, ((fnV 128 (upd (two 64 (upto r2 (movB false false (ofB x0) K).Z) (upto r2 (movB false false (ofB x0) K).O)) r2 ((ofB x0).Z (r2 + K)))).map some), 48⟩]) rfl rfl (by rfl) (fun x => x.setCell ⟨k2, r2, none⟩ (.bool ((ofB x0).Z (r2 + K)))) (by intro x hx; have z0 := hx.fn 3 (r2) rfl (by omega); have q0 := hx.soft 3 (r2) rfl; go_simp; (first | done | rfl)) (fun x hx => hx.fnset 3 (r2) ((ofB x0).Z (r2 + K)) rfl) ?_
       clear HS
       refine ld fun W12 HS => ?_
       go_upto_region 17 with fail
       refine lnb HS.out rfl ?_
       refine lm 0 11 rfl rfl rfl rfl ?_
       simp only [sA, sB]
       refine lm 1 12 rfl rfl rfl rfl ?_
       simp only [sA, sB]
       refine lv 2 (.pointer (some ⟨k1, 64, none⟩)) rfl rfl (by intro x hx; go_simp; (first | done | exact rfl)) ?_
       simp only [sA, sB]
       refine lv 3 (.pointer (some ⟨k1, 64 + (r2 + K), none⟩)) rfl rfl (by intro x hx; go_simp; first | (rw [if_pos (by omega)]; done) | (rw [if_pos (by omega)]; rfl) | (intro hq; exfalso; omega) | (simp; omega)) ?_
       simp only [sA, sB]
       refine lv 4 (.bool ((ofB x0).O (r2 + K))) rfl rfl (by intro x hx; have f0 := hx.fn 2 (64 + (r2 + K)) rfl (by omega); rw [two_hi] at f0; go_simp; (first | done | exact rfl)) ?_
       simp only [sA, sB]
       refine lv 5 (.pointer (some ⟨k2, 64, none⟩)) rfl rfl (by intro x hx; go_simp; (first | done | exact rfl)) ?_
       simp only [sA, sB]
       refine lv 6 (.pointer (some ⟨k2, 64 + r2, none⟩)) rfl rfl (by intro x hx; go_simp; first | (rw [if_pos (by omega)]; done) | (rw [if_pos (by omega)]; rfl) | (intro hq; exfalso; omega) | (simp; omega)) ?_
       simp only [sA, sB]
       refine lin_store (i := 7) (St w [⟨w.heap.size, [some (.int .u64 (tn (x0.lo))), some (.int .u64 (tn (x0.hi)))], 24⟩, ⟨w.heap.size + 1, [some (.int .u64 0), some (.int .u64 0)], 24⟩, ⟨k1, ((fnV 128 (two 64 (ofB x0).Z (ofB x0).O)).map some), 48⟩, ⟨k2, ((fnV 128 (upd (upd (two 64 (upto r2 (movB false false (ofB x0) K).Z) (upto r2 (movB false false (ofB x0) K).O)) r2 ((ofB x0).Z (r2 + K))) (64 + r2) ((ofB x0).O (r2 + K)))).map some), 48⟩]) rfl rfl (by rfl) (fun x => x.setCell ⟨k2, 64 + r2, none⟩ (.bool ((ofB x0).O (r2 + K)))) (by intro x hx; have z0 := hx.fn 3 (64 + r2) rfl (by omega); have q0 := hx.soft 3 (64 + r2) rfl; go_simp; (first | done | rfl)) (fun x hx => hx.fnset 3 (64 + r2) ((ofB x0).O (r2 + K)) rfl) ?_
       clear HS
       refine ld fun W13 HS => ?_
       go_upto_region 8 with fail
       refine lnb HS.out rfl ?_
       refine lm 0 11 rfl rfl rfl rfl ?_
       simp only [sA, sB]
       refine lv 1 (.int .i64 ((r2 + 1 : Nat) : Int)) rfl rfl (by intro x hx; go_simp; (first | done | exact addN r2 1 (by omega) | exact congrArg _ (addN r2 1 (by omega)) | (rw [addN r2 1 (by omega)]; done) | (rw [addN r2 1 (by omega)]; rfl))) ?_
       simp only [sA, sB]
       refine la 2 24 rfl rfl rfl rfl ?_
       simp only [sA, sB]
       clear HS
       refine ld fun W14 HS => ?_
       go_wp2
       first | exact ⟨hlt2, hid ⟨_, _, _, _, _, _, _, _, _, _, _, _, _, _, _, _, _, _, _, _, _, _, _, _, _, _, _, _, _, _, _, _, _, _, _, _, _, _, _, _, rfl, (by have h := HS.out; rw [upd_lo (by omega), upd_hi, upto_next (mov_zs (from_dn h2.out)), upto_next (mov_os (from_dn h2.out))] at h; exact h)⟩⟩ | exact hid ⟨_, _, _, _, _, _, _, _, _, _, _, _, _, _, _, _, _, _, _, _, _, _, _, _, _, _, _, _, _, _, _, _, _, _, _, _, _, _, _, _, rfl, (by have h := HS.out; rw [upd_lo (by omega), upd_hi, upto_next (mov_zs (from_dn h2.out)), upto_next (mov_os (from_dn h2.out))] at h; exact h)⟩ | exact (by have h := HS.out; rw [upd_lo (by omega), upd_hi, upto_next (mov_zs (from_dn h2.out)), upto_next (mov_os (from_dn h2.out))] at h; exact h)
      ·have hd3 := of_decide_eq_true h3; replace h3 := hid h3
       refine lin_no (i := 3) rfl rfl (by kernel_rfl) ?_
       simp only [sA, sB]
       refine lin_no (i := 4) rfl rfl (by kernel_rfl) ?_
       simp only [sA, sB]
       refine lv 5 (.bool true) rfl rfl (by intro x hx; go_simp; (first | done | exact rfl)) ?_
       simp only [sA, sB]
       clear HS
       refine ld fun W11 HS => ?_
       go_upto_region 15 with fail
       refine lnb HS.out rfl ?_
       refine lm 0 11 rfl rfl rfl rfl ?_
       simp only [sA, sB]
       refine lv 1 (.pointer (some ⟨k2, 0, none⟩)) rfl rfl (by intro x hx; go_simp; (first | done | exact rfl)) ?_
       simp only [sA, sB]
       refine lv 2 (.pointer (some ⟨k2, r2, none⟩)) rfl rfl (by intro x hx; go_simp; first | (rw [if_pos (by omega)]; done) | (rw [if_pos (by omega)]; rfl) | (intro hq; exfalso; omega) | (simp; omega)) ?_
       simp only [sA, sB]
       refine lin_store (i := 3) (St w [⟨w.heap.size, [some (.int .u64 (tn (x0.lo))), some (.int .u64 (tn (x0.hi)))], 24⟩, ⟨w.heap.size + 1, [some (.int .u64 0), some (.int .u64 0)], 24⟩, ⟨k1, ((fnV 128 (two 64 (ofB x0).Z (ofB x0).O)).map some), 48⟩, ⟨k2, ((fnV 128 (upd (two 64 (upto r2 (movB false false (ofB x0) K).Z) (upto r2 (movB false false (ofB x0) K).O)) r2 true)).map some), 48⟩]) rfl rfl (by rfl) (fun x => x.setCell ⟨k2, r2, none⟩ (.bool true)) (by intro x hx; have z0 := hx.fn 3 (r2) rfl (by omega); have q0 := hx.soft 3 (r2) rfl; go_simp; (first | done | rfl)) (fun x hx => hx.fnset 3 (r2) true rfl) ?_
       clear HS
       refine ld fun W12 HS => ?_
       go_upto_region 8 with fail
       refine lnb HS.out rfl ?_
       refine lm 0 11 rfl rfl rfl rfl ?_
       simp only [sA, sB]
       refine lv 1 (.int .i64 ((r2 + 1 : Nat) : Int)) rfl rfl (by intro x hx; go_simp; (first | done | exact addN r2 1 (by omega) | exact congrArg _ (addN r2 1 (by omega)) | (rw [addN r2 1 (by omega)]; done) | (rw [addN r2 1 (by omega)]; rfl))) ?_
       simp only [sA, sB]
       refine la 2 24 rfl rfl rfl rfl ?_
       simp only [sA, sB]
       clear HS
       refine ld fun W13 HS => ?_
       go_wp2
       first | exact ⟨hlt2, hid ⟨_, _, _, _, _, _, _, _, _, _, _, _, _, _, _, _, _, _, _, _, _, _, _, _, _, _, _, _, _, _, _, _, _, _, _, _, _, _, _, _, rfl, (by exfalso; have := of_decide_eq_true h3.out; omega)⟩⟩ | exact hid ⟨_, _, _, _, _, _, _, _, _, _, _, _, _, _, _, _, _, _, _, _, _, _, _, _, _, _, _, _, _, _, _, _, _, _, _, _, _, _, _, _, rfl, (by exfalso; have := of_decide_eq_true h3.out; omega)⟩ | exact (by exfalso; have := of_decide_eq_true h3.out; omega)
     ·have hd2 := of_decide_eq_true h2; replace h2 := hid h2
      refine lv 3 (.bool false) rfl rfl (by intro x hx; go_simp; (first | done | exact rfl)) ?_
      simp only [sA, sB]
      refine lv 4 (.bool false) rfl rfl (by intro x hx; go_simp; (first | done | exact rfl)) ?_
      simp only [sA, sB]
      clear HS
      refine ld fun W10 HS => ?_
      go_upto_region 14 with fail
      refine lnb HS.out rfl ?_
      refine lm 0 12 rfl rfl rfl rfl ?_
      simp only [sA, sB]
      refine lv 1 (.bool ((decide ((r2 + K) < 0)))) rfl rfl (by intro x hx; go_simp; (first | done | exact decide_eq_decide.2 (by omega) | omega | (trace_state; sorry))) ?_
      simp only [sA, sB]
      refine lm 2 38 rfl rfl rfl rfl ?_
      simp only [sA, sB]
      cases h3 : ((decide ((r2 + K) < 0)))
      ·have hd3 := of_decide_eq_false h3; replace h3 := hid h3
       refine lv 3 (.int .i64 ((r2 + K : Nat) : Int)) rfl rfl (by intro x hx; go_simp; (first | done | exact rfl)) ?_
       simp only [sA, sB]
       refine lv 4 (.bool ((decide ((r2 + K) > 63)))) rfl rfl (by intro x hx; go_simp; (first | done | exact decide_eq_decide.2 (by omega) | omega | (trace_state; sorry))) ?_
       simp only [sA, sB]
       refine lv 5 (.bool ((decide ((r2 + K) > 63)))) rfl rfl (by intro x hx; go_simp; (first | done | exact rfl)) ?_
       simp only [sA, sB]
       clear HS
       refine ld fun W11 HS => ?_
       rw [show ((decide ((r2 + K) > 63))) = true from h2.out]
       go_upto_region 15 with fail
       refine lnb HS.out rfl ?_
       refine lm 0 11 rfl rfl rfl rfl ?_
       simp only [sA, sB]
       refine lv 1 (.pointer (some ⟨k2, 0, none⟩)) rfl rfl (by intro x hx; go_simp; (first | done | exact rfl)) ?_
       simp only [sA, sB]
       refine lv 2 (.pointer (some ⟨k2, r2, none⟩)) rfl rfl (by intro x hx; go_simp; first | (rw [if_pos (by omega)]; done) | (rw [if_pos (by omega)]; rfl) | (intro hq; exfalso; omega) | (simp; omega)) ?_
       simp only [sA, sB]
       refine lin_store (i := 3) (St w [⟨w.heap.size, [some (.int .u64 (tn (x0.lo))), some (.int .u64 (tn (x0.hi)))], 24⟩, ⟨w.heap.size + 1, [some (.int .u64 0), some (.int .u64 0)], 24⟩, ⟨k1, ((fnV 128 (two 64 (ofB x0).Z (ofB x0).O)).map some), 48⟩, ⟨k2, ((fnV 128 (upd (two 64 (upto r2 (movB false false (ofB x0) K).Z) (upto r2 (movB false false (ofB x0) K).O)) r2 true)).map some), 48⟩]) rfl rfl (by rfl) (fun x => x.setCell ⟨k2, r2, none⟩ (.bool true)) (by intro x hx; have z0 := hx.fn 3 (r2) rfl (by omega); have q0 := hx.soft 3 (r2) rfl; go_simp; (first | done | rfl)) (fun x hx => hx.fnset 3 (r2) true rfl) ?_
       clear HS
       refine ld fun W12 HS => ?_
       go_upto_region 8 with fail
       refine lnb HS.out rfl ?_
       refine lm 0 11 rfl rfl rfl rfl ?_
       simp only [sA, sB]
       refine lv 1 (.int .i64 ((r2 + 1 : Nat) : Int)) rfl rfl (by intro x hx; go_simp; (first | done | exact addN r2 1 (by omega) | exact congrArg _ (addN r2 1 (by omega)) | (rw [addN r2 1 (by omega)]; done) | (rw [addN r2 1 (by omega)]; rfl))) ?_
       simp only [sA, sB]
       refine la 2 24 rfl rfl rfl rfl ?_
       simp only [sA, sB]
       clear HS
       refine ld fun W13 HS => ?_
       go_wp2
       first | exact ⟨hlt2, hid ⟨_, _, _, _, _, _, _, _, _, _, _, _, _, _, _, _, _, _, _, _, _, _, _, _, _, _, _, _, _, _, _, _, _, _, _, _, _, _, _, _, rfl, (by have h := HS.out; rw [upd_lo (by omega), upto_next (mov_zn (from_dnno h2.out)), ← upto_skip (F := (movB false false (ofB x0) K).O) (mov_on (from_dnno h2.out))] at h; exact h)⟩⟩ | exact hid ⟨_, _, _, _, _, _, _, _, _, _, _, _, _, _, _, _, _, _, _, _, _, _, _, _, _, _, _, _, _, _, _, _, _, _, _, _, _, _, _, _, rfl, (by have h := HS.out; rw [upd_lo (by omega), upto_next (mov_zn (from_dnno h2.out)), ← upto_skip (F := (movB false false (ofB x0) K).O) (mov_on (from_dnno h2.out))] at h; exact h)⟩ | exact (by have h := HS.out; rw [upd_lo (by omega), upto_next (mov_zn (from_dnno h2.out)), ← upto_skip (F := (movB false false (ofB x0) K).O) (mov_on (from_dnno h2.out))] at h; exact h)
      ·have hd3 := of_decide_eq_true h3; replace h3 := hid h3
       refine lin_no (i := 3) rfl rfl (by kernel_rfl) ?_
       simp only [sA, sB]
       refine lin_no (i := 4) rfl rfl (by kernel_rfl) ?_
       simp only [sA, sB]
       refine lv 5 (.bool true) rfl rfl (by intro x hx; go_simp; (first | done | exact rfl)) ?_
       simp only [sA, sB]
       clear HS
       refine ld fun W11 HS => ?_
       go_upto_region 15 with fail
       refine lnb HS.out rfl ?_
       refine lm 0 11 rfl rfl rfl rfl ?_
       simp only [sA, sB]
       refine lv 1 (.pointer (some ⟨k2, 0, none⟩)) rfl rfl (by intro x hx; go_simp; (first | done | exact rfl)) ?_
       simp only [sA, sB]
       refine lv 2 (.pointer (some ⟨k2, r2, none⟩)) rfl rfl (by intro x hx; go_simp; first | (rw [if_pos (by omega)]; done) | (rw [if_pos (by omega)]; rfl) | (intro hq; exfalso; omega) | (simp; omega)) ?_
       simp only [sA, sB]
       refine lin_store (i := 3) (St w [⟨w.heap.size, [some (.int .u64 (tn (x0.lo))), some (.int .u64 (tn (x0.hi)))], 24⟩, ⟨w.heap.size + 1, [some (.int .u64 0), some (.int .u64 0)], 24⟩, ⟨k1, ((fnV 128 (two 64 (ofB x0).Z (ofB x0).O)).map some), 48⟩, ⟨k2, ((fnV 128 (upd (two 64 (upto r2 (movB false false (ofB x0) K).Z) (upto r2 (movB false false (ofB x0) K).O)) r2 true)).map some), 48⟩]) rfl rfl (by rfl) (fun x => x.setCell ⟨k2, r2, none⟩ (.bool true)) (by intro x hx; have z0 := hx.fn 3 (r2) rfl (by omega); have q0 := hx.soft 3 (r2) rfl; go_simp; (first | done | rfl)) (fun x hx => hx.fnset 3 (r2) true rfl) ?_
       clear HS
       refine ld fun W12 HS => ?_
       go_upto_region 8 with fail
       refine lnb HS.out rfl ?_
       refine lm 0 11 rfl rfl rfl rfl ?_
       simp only [sA, sB]
       refine lv 1 (.int .i64 ((r2 + 1 : Nat) : Int)) rfl rfl (by intro x hx; go_simp; (first | done | exact addN r2 1 (by omega) | exact congrArg _ (addN r2 1 (by omega)) | (rw [addN r2 1 (by omega)]; done) | (rw [addN r2 1 (by omega)]; rfl))) ?_
       simp only [sA, sB]
       refine la 2 24 rfl rfl rfl rfl ?_
       simp only [sA, sB]
       clear HS
       refine ld fun W13 HS => ?_
       go_wp2
       first | exact ⟨hlt2, hid ⟨_, _, _, _, _, _, _, _, _, _, _, _, _, _, _, _, _, _, _, _, _, _, _, _, _, _, _, _, _, _, _, _, _, _, _, _, _, _, _, _, rfl, (by exfalso; have := of_decide_eq_true h3.out; omega)⟩⟩ | exact hid ⟨_, _, _, _, _, _, _, _, _, _, _, _, _, _, _, _, _, _, _, _, _, _, _, _, _, _, _, _, _, _, _, _, _, _, _, _, _, _, _, _, rfl, (by exfalso; have := of_decide_eq_true h3.out; omega)⟩ | exact (by exfalso; have := of_decide_eq_true h3.out; omega)
   · have hN2 := hid (show r2 = 64 by omega)
     replace HS := hid (show St w [⟨w.heap.size, [some (.int .u64 (tn (x0.lo))), some (.int .u64 (tn (x0.hi)))], 24⟩, ⟨w.heap.size + 1, [some (.int .u64 0), some (.int .u64 0)], 24⟩, ⟨k1, ((fnV 128 (two 64 (ofB x0).Z (ofB x0).O)).map some), 48⟩, ⟨k2, ((fnV 128 (two 64 (movB false false (ofB x0) K).Z (movB false false (ofB x0) K).O)).map some), 48⟩] W from (by have h := HS.out; rw [hN2.out, bits_all] at h; exact h))
     go_upto_region 7 with fail
     refine lnb HS.out rfl ?_
     refine lm 0 11 rfl rfl rfl rfl ?_
     simp only [sA, sB]
     refine lv 1 (.bool false) rfl rfl (by intro x hx; go_simp; (first | done | omega | (simp; omega))) ?_
     simp only [sA, sB]
     clear HS
     refine ld fun W7 HS => ?_
     go_upto_region 18 with fail
     refine lnb HS.out rfl ?_
     refine lv 0 (.agg (fnV 128 (two 64 (movB false false (ofB x0) K).Z (movB false false (ofB x0) K).O)).toArray) rfl rfl (by intro x hx; exact loadF hx 3 rfl rfl rfl (fun w => by kernel_rfl) (fun w => by kernel_rfl)) ?_
     simp only [sA, sB]
     refine lc 1 44 #[.agg (fnV 128 (two 64 (movB false false (ofB x0) K).Z (movB false false (ofB x0) K).O)).toArray] (vU (tnumB (movB false false (ofB x0) K))) rfl rfl (by intro x hx; exact ref_Tnum_any (movB false false (ofB x0) K) _) ?_
     simp only [sA, sB, vU]
     refine ls 2 1 0 (cU (tnumB (movB false false (ofB x0) K))) rfl rfl rfl (by intro x hx; obtain ⟨⟨_, z0, q0⟩, ⟨_, z1, q1⟩⟩ := hx.at2 1 0 rfl; go_simp; (first | done | rfl)) ?_
     simp only [Blk.putC, setM, cU, sA, sB]
     clear HS
     refine ld fun W8 HS => ?_
     go_wp2
     obtain ⟨r0, r1⟩ := HS.out.two 1 0 rfl rfl
     exact bodyPost_ret (v := vU (tnumB (movB false false (ofB x0) K))) (by simp [results, Tryd.results24, go_sem, r0, r1, vU]) rfl ⟨rfl, HS.out.below⟩
set_option maxRecDepth 100000 in
set_option maxHeartbeats 1000000 in
theorem ref_Moved_false_true (x0 : P) (x1 : BitVec 64)   (w : World) :
    Calls Tryd.prog 24 #[vU x0, .int .i64 (ti (x1)), .bool false, .bool true] w fun e w' => e = .returned (vU (tnumB (movB false true (ofB x0) (x1 % 64#64).toNat))) ∧ Below w.heap.size w w' := by
  have hz48 := zero_48
  simp only [vU]
  obtain ⟨K, hK⟩ : ∃ K, K = (x1 % 64#64).toNat := ⟨_, rfl⟩
  have hK64 : K < 64 := by rw [hK]; exact mod64' x1
  have HM := mov_rem x1
  rw [← hK] at HM ⊢
  replace HM := hid HM
  have HK := hid hK
  clear hK
  go_enter Tryd.func24, Tryd.ntmps24
  have HS : Hid (St w [⟨w.heap.size, [some (.int .u64 (tn (x0.lo))), some (.int .u64 (tn (x0.hi)))], 24⟩, ⟨w.heap.size + 1, [some (.int .u64 0), some (.int .u64 0)], 24⟩] _) := hid (((st_nil w).alloc (k := w.heap.size) rfl [.int .u64 (tn (x0.lo)), .int .u64 (tn (x0.hi))] 24).alloc (k := w.heap.size + 1) (by simp) [.int .u64 0, .int .u64 0] 24)
  go_upto_region 1 with fail
  refine lnb HS.out rfl ?_
  refine lm 0 1 rfl rfl rfl rfl ?_
  simp only [sA, sB]
  refine lv 1 (.int .i64 ((ti x1).tmod 64)) rfl rfl (by intro x hx; go_simp; (first | done | exact rfl)) ?_
  simp only [sA, sB]
  refine la 2 14 rfl rfl rfl rfl ?_
  simp only [sA, sB]
  clear HS
  refine ld fun W1 HS => ?_
  go_upto_region 2 with fail
  refine lnb HS.out rfl ?_
  refine lm 0 1 rfl rfl rfl rfl ?_
  simp only [sA, sB]
  refine lv 1 (.bool ((decide ((ti x1).tmod 64 < 0)))) rfl rfl (by intro x hx; go_simp; (first | done | exact rfl | exact decide_eq_decide.2 (by omega))) ?_
  simp only [sA, sB]
  clear HS
  refine ld fun W2 HS => ?_
  cases h1 : ((decide ((ti x1).tmod 64 < 0)))
  ·have hd1 := of_decide_eq_false h1; replace h1 := hid h1
   rw [show ((ti x1).tmod 64 : Int) = ((K : Nat) : Int) from mov_id HM.out (by omega) h1.out]
   go_upto_region 4 with fail
   refine lnb HS.out rfl ?_
   refine lv 0 (vU x0) rfl rfl (by intro x hx; obtain ⟨f0, f1⟩ := hx.two 0 0 rfl rfl; go_simp; (first | done | exact rfl)) ?_
   simp only [sA, sB, vU]
   refine lc 1 43 #[vU x0] (.agg (fnV 128 (two 64 (ofB x0).Z (ofB x0).O)).toArray) rfl rfl (by intro x hx; exact ref_Of_any x0 _) ?_
   simp only [sA, sB]
   refine lin_new (i := 2) rfl rfl (by rfl) (fnV 128 (fun _ => false)) 48 (fun k => .pointer (some ⟨k, 0, none⟩)) ((fnV 128 (fun _ => false)).map some) (lessC_refl _) (by intro x hx; go_simp; (first | done | exact rfl)) (fun k1 => ?_)
   simp only [sA, sB, sC, sD]
   refine lin_store (i := 3) (St w [⟨w.heap.size, [some (.int .u64 (tn (x0.lo))), some (.int .u64 (tn (x0.hi)))], 24⟩, ⟨w.heap.size + 1, [some (.int .u64 0), some (.int .u64 0)], 24⟩, ⟨k1, ((fnV 128 (two 64 (ofB x0).Z (ofB x0).O)).map some), 48⟩]) rfl rfl (by rfl) (fun x => x.setCells k1 0 (fnV 128 (two 64 (ofB x0).Z (ofB x0).O))) (by intro x hx; exact storeF hx 2 rfl (by simp [fnV_len]) (fnV_one _ _) rfl rfl rfl (fun w => by rw [fnV_len]; kernel_rfl)) (fun x hx => hx.putF 2 _ rfl (by simp [fnV_len])) ?_
   clear HS
   refine ld fun W3 HS => ?_
   go_upto_region 5 with fail
   refine lnb HS.out rfl ?_
   refine lin_new (i := 0) rfl rfl (by rfl) (fnV 128 (fun _ => false)) 48 (fun k => .pointer (some ⟨k, 0, none⟩)) ((fnV 128 (fun _ => false)).map some) (lessC_refl _) (by intro x hx; go_simp; (first | done | exact rfl)) (fun k2 => ?_)
   simp only [sA, sB, sC, sD]
   clear HS
   refine ld fun W4 HS => ?_
   go_upto_region 6 with fail
   refine lnb HS.out rfl ?_
   refine lv 0 (.int .i64 0) rfl rfl (by intro x hx; go_simp; (first | done | exact rfl)) ?_
   simp only [sA, sB]
   clear HS
   refine ld fun W5 HS => ?_
   go_wp2
   refine loop_up 64 (fun k a W => Hid (∃ u1_12 u1_21 u1_22 u1_23 u1_24 u1_25 u1_26 u1_27 u1_28 u1_29 u1_30 u1_31 u1_32 u1_33 u1_34 u1_35 u1_36 u1_37 u1_38 u1_39 u1_40 u1_41 u1_42 u1_43 u1_44 u1_45 u1_46 u1_47 u1_48 u1_49 u1_50 u1_51 u1_52 u1_53 u1_54 u1_55 u1_56 u1_57 u1_58 u1_59 : Value, a = Act.mk [vU x0, .int .i64 ((K : Nat) : Int), .bool false, .bool true, .pointer (some ⟨w.heap.size, 0, none⟩), undef, undef, undef, .pointer (some ⟨w.heap.size + 1, 0, none⟩), .pointer (some ⟨k1, 0, none⟩), .pointer (some ⟨k2, 0, none⟩), .int .i64 ((k : Nat) : Int), u1_12, .int .i64 (ti (x1)), .int .i64 ((K : Nat) : Int), .int .i64 ((K : Nat) : Int), .bool false, undef, undef, vU x0, .agg (fnV 128 (two 64 (ofB x0).Z (ofB x0).O)).toArray, u1_21, u1_22, u1_23, u1_24, u1_25, u1_26, u1_27, u1_28, u1_29, u1_30, u1_31, u1_32, u1_33, u1_34, u1_35, u1_36, u1_37, u1_38, u1_39, u1_40, u1_41, u1_42, u1_43, u1_44, u1_45, u1_46, u1_47, u1_48, u1_49, u1_50, u1_51, u1_52, u1_53, u1_54, u1_55, u1_56, u1_57, u1_58, u1_59, undef, undef].toArray [] ∧ St w [⟨w.heap.size, [some (.int .u64 (tn (x0.lo))), some (.int .u64 (tn (x0.hi)))], 24⟩, ⟨w.heap.size + 1, [some (.int .u64 0), some (.int .u64 0)], 24⟩, ⟨k1, ((fnV 128 (two 64 (ofB x0).Z (ofB x0).O)).map some), 48⟩, ⟨k2, ((fnV 128 (two 64 (upto k (movB false true (ofB x0) K).Z) (upto k (movB false true (ofB x0) K).O))).map some), 48⟩] W)) (hid ⟨(undef), (undef), (undef), (undef), (undef), (undef), (undef), (undef), (undef), (undef), (undef), (undef), (undef), (undef), (undef), (undef), (undef), (undef), (undef), (undef), (undef), (undef), (undef), (undef), (undef), (undef), (undef), (undef), (undef), (undef), (undef), (undef), (undef), (undef), (undef), (undef), (undef), (undef), (undef), (undef), rfl, (by have h := HS.out; rw [← bits_none (movB false true (ofB x0) K).Z (movB false true (ofB x0) K).O] at h; exact h)⟩) (fun r1 a W hr hR => ?_)
   obtain ⟨u1_12, u1_21, u1_22, u1_23, u1_24, u1_25, u1_26, u1_27, u1_28, u1_29, u1_30, u1_31, u1_32, u1_33, u1_34, u1_35, u1_36, u1_37, u1_38, u1_39, u1_40, u1_41, u1_42, u1_43, u1_44, u1_45, u1_46, u1_47, u1_48, u1_49, u1_50, u1_51, u1_52, u1_53, u1_54, u1_55, u1_56, u1_57, u1_58, u1_59, rfl, hS⟩ := hR.out
   replace HS := hid hS
   clear hS hR
   by_cases hlt1 : r1 < 64
   · -- round
     go_upto_region 7 with fail
     refine lnb HS.out rfl ?_
     refine lm 0 11 rfl rfl rfl rfl ?_
     simp only [sA, sB]
     refine lv 1 (.bool true) rfl rfl (by intro x hx; go_simp; (first | done | omega | (simp; omega))) ?_
     simp only [sA, sB]
     clear HS
     refine ld fun W6 HS => ?_
     go_upto_region 9 with fail
     refine lnb HS.out rfl ?_
     refine lm 0 11 rfl rfl rfl rfl ?_
     simp only [sA, sB]
     refine lm 1 1 rfl rfl rfl rfl ?_
     simp only [sA, sB]
     refine lv 2 (.int .i64 ((r1 + K : Nat) : Int)) rfl rfl (by intro x hx; go_simp; (first | done | exact addN r1 K (by omega) | exact congrArg _ (addN r1 K (by omega)) | (rw [addN r1 K (by omega)]; done) | (rw [addN r1 K (by omega)]; rfl))) ?_
     simp only [sA, sB]
     refine la 3 27 rfl rfl rfl rfl ?_
     simp only [sA, sB]
     clear HS
     refine ld fun W7 HS => ?_
     go_upto_region 10 with fail
     refine lnb HS.out rfl ?_
     refine lm 0 2 rfl rfl rfl rfl ?_
     simp only [sA, sB]
     clear HS
     refine ld fun W8 HS => ?_
     go_upto_region 12 with fail
     refine lnb HS.out rfl ?_
     refine lm 0 12 rfl rfl rfl rfl ?_
     simp only [sA, sB]
     refine lv 1 (.bool ((decide ((r1 + K) > 63)))) rfl rfl (by intro x hx; go_simp; (first | done | exact decide_eq_decide.2 (by omega) | omega | (trace_state; sorry))) ?_
     simp only [sA, sB]
     refine lm 2 33 rfl rfl rfl rfl ?_
     simp only [sA, sB]
     cases h2 : ((decide ((r1 + K) > 63)))
     ·have hd2 := of_decide_eq_false h2; replace h2 := hid h2
      refine lin_no (i := 3) rfl rfl (by kernel_rfl) ?_
      simp only [sA, sB]
      refine lv 4 (.bool false) rfl rfl (by intro x hx; go_simp; (first | done | exact rfl)) ?_
      simp only [sA, sB]
      clear HS
      refine ld fun W9 HS => ?_
      go_upto_region 14 with fail
      refine lnb HS.out rfl ?_
      refine lm 0 12 rfl rfl rfl rfl ?_
      simp only [sA, sB]
      refine lv 1 (.bool ((decide ((r1 + K) < 0)))) rfl rfl (by intro x hx; go_simp; (first | done | exact decide_eq_decide.2 (by omega) | omega | (trace_state; sorry))) ?_
      simp only [sA, sB]
      refine lm 2 38 rfl rfl rfl rfl ?_
      simp only [sA, sB]
      cases h3 : ((decide ((r1 + K) < 0)))
      ·have hd3 := of_decide_eq_false h3; replace h3 := hid h3
       refine lv 3 (.int .i64 ((r1 + K : Nat) : Int)) rfl rfl (by intro x hx; go_simp; (first | done | exact rfl)) ?_
       simp only [sA, sB]
       refine lv 4 (.bool ((decide ((r1 + K) > 63)))) rfl rfl (by intro x hx; go_simp; (first | done | exact decide_eq_decide.2 (by omega) | omega | (trace_state; sorry))) ?_
       simp only [sA, sB]
       refine lv 5 (.bool ((decide ((r1 + K) > 63)))) rfl rfl (by intro x hx; go_simp; (first | done | exact rfl)) ?_
       simp only [sA, sB]
       clear HS
       refine ld fun W10 HS => ?_
       rw [show ((decide ((r1 + K) > 63))) = false from h2.out]
       go_upto_region 16 with fail
       refine lnb HS.out rfl ?_
       refine lm 0 11 rfl rfl rfl rfl ?_
       simp only [sA, sB]
       refine lm 1 12 rfl rfl rfl rfl ?_
       simp only [sA, sB]
       refine lv 2 (.pointer (some ⟨k1, 0, none⟩)) rfl rfl (by intro x hx; go_simp; (first | done | exact rfl)) ?_
       simp only [sA, sB]
       refine lv 3 (.pointer (some ⟨k1, r1 + K, none⟩)) rfl rfl (by intro x hx; go_simp; first | (rw [if_pos (by omega)]; done) | (rw [if_pos (by omega)]; rfl) | (intro hq; exfalso; omega) | (simp; omega)) ?_
       simp only [sA, sB]
       refine lv 4 (.bool ((ofB x0).Z (r1 + K))) rfl rfl (by intro x hx; have f0 := hx.fn 2 (r1 + K) rfl (by omega); rw [two_lo (by omega)] at f0; go_simp; (first | done | exact rfl)) ?_
       simp only [sA, sB]
       refine lv 5 (.pointer (some ⟨k2, 0, none⟩)) rfl rfl (by intro x hx; go_simp; (first | done | exact rfl)) ?_
       simp only [sA, sB]
       refine lv 6 (.pointer (some ⟨k2, r1, none⟩)) rfl rfl (by intro x hx; go_simp; first | (rw [if_pos (by omega)]; done) | (rw [if_pos (by omega)]; rfl) | (intro hq; exfalso; omega) | (simp; omega)) ?_
       simp only [sA, sB]
       refine lin_store (i := 7) (St w [⟨w.heap.size, [some (.int .u64 (tn (x0.lo))), some (.int .u64 (tn (x0.hi)))], 24⟩, ⟨w.heap.size + 1, [some (.int .u64 0), some (.int .u64 0)], 24⟩, ⟨k1, ((fnV 128 (two 64 (ofB x0).Z (ofB x0).O)).map some), 48⟩, ⟨k2, ((fnV 128 (upd (two 64 (upto r1 (movB false true (ofB x0) K).Z) (upto r1 (movB false true (ofB x0) K).O)) r1 ((ofB x0).Z (r1 + K)))).map some), 48⟩]) rfl rfl (by rfl) (fun x => x.setCell ⟨k2, r1, none⟩ (.bool ((ofB x0).Z (r1 + K)))) (by intro x hx; have z0 := hx.fn 3 (r1) rfl (by omega); have q0 := hx.soft 3 (r1) rfl; go_simp; (first | done | rfl)) (fun x hx => hx.fnset 3 (r1) ((ofB x0).Z (r1 + K)) rfl) ?_
       clear HS
       refine ld fun W11 HS => ?_
       go_upto_region 17 with fail
       refine lnb HS.out rfl ?_
       refine lm 0 11 rfl rfl rfl rfl ?_
       simp only [sA, sB]
       refine lm 1 12 rfl rfl rfl rfl ?_
       simp only [sA, sB]
       refine lv 2 (.pointer (some ⟨k1, 64, none⟩)) rfl rfl (by intro x hx; go_simp; (first | done | exact rfl)) ?_
       simp only [sA, sB]
       refine lv 3 (.pointer (some ⟨k1, 64 + (r1 + K), none⟩)) rfl rfl (by intro x hx; go_simp; first | (rw [if_pos (by omega)]; done) | (rw [if_pos (by omega)]; rfl) | (intro hq; exfalso; omega) | (simp; omega)) ?_
       simp only [sA, sB]
       refine lv 4 (.bool ((ofB x0).O (r1 + K))) rfl rfl (by intro x hx; have f0 := hx.fn 2 (64 + (r1 + K)) rfl (by omega); rw [two_hi] at f0; go_simp; (first | done | exact rfl)) ?_
       simp only [sA, sB]
       refine lv 5 (.pointer (some ⟨k2, 64, none⟩)) rfl rfl (by intro x hx; go_simp; (first | done | exact rfl)) ?_
       simp only [sA, sB]
       refine lv 6 (.pointer (some ⟨k2, 64 + r1, none⟩)) rfl rfl (by intro x hx; go_simp; first | (rw [if_pos (by omega)]; done) | (rw [if_pos (by omega)]; rfl) | (intro hq; exfalso; omega) | (simp; omega)) ?_
       simp only [sA, sB]
       refine lin_store (i := 7) (St w [⟨w.heap.size, [some (.int .u64 (tn (x0.lo))), some (.int .u64 (tn (x0.hi)))], 24⟩, ⟨w.heap.size + 1, [some (.int .u64 0), some (.int .u64 0)], 24⟩, ⟨k1, ((fnV 128 (two 64 (ofB x0).Z (ofB x0).O)).map some), 48⟩, ⟨k2, ((fnV 128 (upd (upd (two 64 (upto r1 (movB false true (ofB x0) K).Z) (upto r1 (movB false true (ofB x0) K).O)) r1 ((ofB x0).Z (r1 + K))) (64 + r1) ((ofB x0).O (r1 + K)))).map some), 48⟩]) rfl rfl (by rfl) (fun x => x.setCell ⟨k2, 64 + r1, none⟩ (.bool ((ofB x0).O (r1 + K)))) (by intro x hx; have z0 := hx.fn 3 (64 + r1) rfl (by omega); have q0 := hx.soft 3 (64 + r1) rfl; go_simp; (first | done | rfl)) (fun x hx => hx.fnset 3 (64 + r1) ((ofB x0).O (r1 + K)) rfl) ?_
       clear HS
       refine ld fun W12 HS => ?_
       go_upto_region 8 with fail
       refine lnb HS.out rfl ?_
       refine lm 0 11 rfl rfl rfl rfl ?_
       simp only [sA, sB]
       refine lv 1 (.int .i64 ((r1 + 1 : Nat) : Int)) rfl rfl (by intro x hx; go_simp; (first | done | exact addN r1 1 (by omega) | exact congrArg _ (addN r1 1 (by omega)) | (rw [addN r1 1 (by omega)]; done) | (rw [addN r1 1 (by omega)]; rfl))) ?_
       simp only [sA, sB]
       refine la 2 24 rfl rfl rfl rfl ?_
       simp only [sA, sB]
       clear HS
       refine ld fun W13 HS => ?_
       go_wp2
       first | exact ⟨hlt1, hid ⟨_, _, _, _, _, _, _, _, _, _, _, _, _, _, _, _, _, _, _, _, _, _, _, _, _, _, _, _, _, _, _, _, _, _, _, _, _, _, _, _, rfl, (by have h := HS.out; rw [upd_lo (by omega), upd_hi, upto_next (mov_zs (from_dn h2.out)), upto_next (mov_os (from_dn h2.out))] at h; exact h)⟩⟩ | exact hid ⟨_, _, _, _, _, _, _, _, _, _, _, _, _, _, _, _, _, _, _, _, _, _, _, _, _, _, _, _, _, _, _, _, _, _, _, _, _, _, _, _, rfl, (by have h := HS.out; rw [upd_lo (by omega), upd_hi, upto_next (mov_zs (from_dn h2.out)), upto_next (mov_os (from_dn h2.out))] at h; exact h)⟩ | exact (by have h := HS.out; rw [upd_lo (by omega), upd_hi, upto_next (mov_zs (from_dn h2.out)), upto_next (mov_os (from_dn h2.out))] at h; exact h)
      ·have hd3 := of_decide_eq_true h3; replace h3 := hid h3
       refine lin_no (i := 3) rfl rfl (by kernel_rfl) ?_
       simp only [sA, sB]
       refine lin_no (i := 4) rfl rfl (by kernel_rfl) ?_
       simp only [sA, sB]
       refine lv 5 (.bool true) rfl rfl (by intro x hx; go_simp; (first | done | exact rfl)) ?_
       simp only [sA, sB]
       clear HS
       refine ld fun W10 HS => ?_
       go_upto_region 15 with fail
       refine lnb HS.out rfl ?_
       refine lm 0 11 rfl rfl rfl rfl ?_
       simp only [sA, sB]
       refine lv 1 (.pointer (some ⟨k2, 0, none⟩)) rfl rfl (by intro x hx; go_simp; (first | done | exact rfl)) ?_
       simp only [sA, sB]
       refine lv 2 (.pointer (some ⟨k2, r1, none⟩)) rfl rfl (by intro x hx; go_simp; first | (rw [if_pos (by omega)]; done) | (rw [if_pos (by omega)]; rfl) | (intro hq; exfalso; omega) | (simp; omega)) ?_
       simp only [sA, sB]
       refine lin_store (i := 3) (St w [⟨w.heap.size, [some (.int .u64 (tn (x0.lo))), some (.int .u64 (tn (x0.hi)))], 24⟩, ⟨w.heap.size + 1, [some (.int .u64 0), some (.int .u64 0)], 24⟩, ⟨k1, ((fnV 128 (two 64 (ofB x0).Z (ofB x0).O)).map some), 48⟩, ⟨k2, ((fnV 128 (upd (two 64 (upto r1 (movB false true (ofB x0) K).Z) (upto r1 (movB false true (ofB x0) K).O)) r1 true)).map some), 48⟩]) rfl rfl (by rfl) (fun x => x.setCell ⟨k2, r1, none⟩ (.bool true)) (by intro x hx; have z0 := hx.fn 3 (r1) rfl (by omega); have q0 := hx.soft 3 (r1) rfl; go_simp; (first | done | rfl)) (fun x hx => hx.fnset 3 (r1) true rfl) ?_
       clear HS
       refine ld fun W11 HS => ?_
       go_upto_region 8 with fail
       refine lnb HS.out rfl ?_
       refine lm 0 11 rfl rfl rfl rfl ?_
       simp only [sA, sB]
       refine lv 1 (.int .i64 ((r1 + 1 : Nat) : Int)) rfl rfl (by intro x hx; go_simp; (first | done | exact addN r1 1 (by omega) | exact congrArg _ (addN r1 1 (by omega)) | (rw [addN r1 1 (by omega)]; done) | (rw [addN r1 1 (by omega)]; rfl))) ?_
       simp only [sA, sB]
       refine la 2 24 rfl rfl rfl rfl ?_
       simp only [sA, sB]
       clear HS
       refine ld fun W12 HS => ?_
       go_wp2
       first | exact ⟨hlt1, hid ⟨_, _, _, _, _, _, _, _, _, _, _, _, _, _, _, _, _, _, _, _, _, _, _, _, _, _, _, _, _, _, _, _, _, _, _, _, _, _, _, _, rfl, (by exfalso; have := of_decide_eq_true h3.out; omega)⟩⟩ | exact hid ⟨_, _, _, _, _, _, _, _, _, _, _, _, _, _, _, _, _, _, _, _, _, _, _, _, _, _, _, _, _, _, _, _, _, _, _, _, _, _, _, _, rfl, (by exfalso; have := of_decide_eq_true h3.out; omega)⟩ | exact (by exfalso; have := of_decide_eq_true h3.out; omega)
     ·have hd2 := of_decide_eq_true h2; replace h2 := hid h2
      refine lv 3 (.bool true) rfl rfl (by intro x hx; go_simp; (first | done | exact rfl)) ?_
      simp only [sA, sB]
      refine lv 4 (.bool true) rfl rfl (by intro x hx; go_simp; (first | done | exact rfl)) ?_
      simp only [sA, sB]
      clear HS
      refine ld fun W9 HS => ?_
      go_upto_region 13 with fail
      refine lnb HS.out rfl ?_
      refine lv 0 (.int .i64 63) rfl rfl (by intro x hx; go_simp; (first | done | exact rfl)) ?_
      simp only [sA, sB]
      clear HS
      refine ld fun W10 HS => ?_
      go_upto_region 14 with fail
      refine lnb HS.out rfl ?_
      refine lm 0 12 rfl rfl rfl rfl ?_
      simp only [sA, sB]
      refine lv 1 (.bool false) rfl rfl (by intro x hx; go_simp; (first | done | exact rfl)) ?_
      simp only [sA, sB]
      refine lm 2 38 rfl rfl rfl rfl ?_
      simp only [sA, sB]
      refine lv 3 (.int .i64 63) rfl rfl (by intro x hx; go_simp; (first | done | exact rfl)) ?_
      simp only [sA, sB]
      refine lv 4 (.bool false) rfl rfl (by intro x hx; go_simp; (first | done | exact rfl)) ?_
      simp only [sA, sB]
      refine lv 5 (.bool false) rfl rfl (by intro x hx; go_simp; (first | done | exact rfl)) ?_
      simp only [sA, sB]
      clear HS
      refine ld fun W11 HS => ?_
      go_upto_region 16 with fail
      refine lnb HS.out rfl ?_
      refine lm 0 11 rfl rfl rfl rfl ?_
      simp only [sA, sB]
      refine lm 1 12 rfl rfl rfl rfl ?_
      simp only [sA, sB]
      refine lv 2 (.pointer (some ⟨k1, 0, none⟩)) rfl rfl (by intro x hx; go_simp; (first | done | exact rfl)) ?_
      simp only [sA, sB]
      refine lv 3 (.pointer (some ⟨k1, 63, none⟩)) rfl rfl (by intro x hx; go_simp; (first | done | exact rfl)) ?_
      simp only [sA, sB]
      refine lv 4 (.bool ((ofB x0).Z 63)) rfl rfl (by intro x hx; have f0 := hx.fn 2 (63) rfl (by omega); rw [two_lo (by omega)] at f0; go_simp; (first | done | exact rfl)) ?_
      simp only [sA, sB]
      refine lv 5 (.pointer (some ⟨k2, 0, none⟩)) rfl rfl (by intro x hx; go_simp; (first | done | exact rfl)) ?_
      simp only [sA, sB]
      refine lv 6 (.pointer (some ⟨k2, r1, none⟩)) rfl rfl (by intro x hx; go_simp; first | (rw [if_pos (by omega)]; done) | (rw [if_pos (by omega)]; rfl) | (intro hq; exfalso; omega) | (simp; omega)) ?_
      simp only [sA, sB]
      refine lin_store (i := 7) (St w [⟨w.heap.size, [some (.int .u64 (tn (x0.lo))), some (.int .u64 (tn (x0.hi)))], 24⟩, ⟨w.heap.size + 1, [some (.int .u64 0), some (.int .u64 0)], 24⟩, ⟨k1, ((fnV 128 (two 64 (ofB x0).Z (ofB x0).O)).map some), 48⟩, ⟨k2, ((fnV 128 (upd (two 64 (upto r1 (movB false true (ofB x0) K).Z) (upto r1 (movB false true (ofB x0) K).O)) r1 ((ofB x0).Z 63))).map some), 48⟩]) rfl rfl (by rfl) (fun x => x.setCell ⟨k2, r1, none⟩ (.bool ((ofB x0).Z 63))) (by intro x hx; have z0 := hx.fn 3 (r1) rfl (by omega); have q0 := hx.soft 3 (r1) rfl; go_simp; (first | done | rfl)) (fun x hx => hx.fnset 3 (r1) ((ofB x0).Z 63) rfl) ?_
      clear HS
      refine ld fun W12 HS => ?_
      go_upto_region 17 with fail
      refine lnb HS.out rfl ?_
      refine lm 0 11 rfl rfl rfl rfl ?_
      simp only [sA, sB]
      refine lm 1 12 rfl rfl rfl rfl ?_
      simp only [sA, sB]
      refine lv 2 (.pointer (some ⟨k1, 64, none⟩)) rfl rfl (by intro x hx; go_simp; (first | done | exact rfl)) ?_
      simp only [sA, sB]
      refine lv 3 (.pointer (some ⟨k1, 127, none⟩)) rfl rfl (by intro x hx; go_simp; (first | done | exact rfl)) ?_
      simp only [sA, sB]
      refine lv 4 (.bool ((ofB x0).O 63)) rfl rfl (by intro x hx; have f0 := hx.fn 2 (127) rfl (by omega); rw [show two 64 ((ofB x0).Z) ((ofB x0).O) 127 = (ofB x0).O 63 from two_hi (n := 64) (k := 63)] at f0; go_simp; (first | done | exact rfl)) ?_
      simp only [sA, sB]
      refine lv 5 (.pointer (some ⟨k2, 64, none⟩)) rfl rfl (by intro x hx; go_simp; (first | done | exact rfl)) ?_
      simp only [sA, sB]
      refine lv 6 (.pointer (some ⟨k2, 64 + r1, none⟩)) rfl rfl (by intro x hx; go_simp; first | (rw [if_pos (by omega)]; done) | (rw [if_pos (by omega)]; rfl) | (intro hq; exfalso; omega) | (simp; omega)) ?_
      simp only [sA, sB]
      refine lin_store (i := 7) (St w [⟨w.heap.size, [some (.int .u64 (tn (x0.lo))), some (.int .u64 (tn (x0.hi)))], 24⟩, ⟨w.heap.size + 1, [some (.int .u64 0), some (.int .u64 0)], 24⟩, ⟨k1, ((fnV 128 (two 64 (ofB x0).Z (ofB x0).O)).map some), 48⟩, ⟨k2, ((fnV 128 (upd (upd (two 64 (upto r1 (movB false true (ofB x0) K).Z) (upto r1 (movB false true (ofB x0) K).O)) r1 ((ofB x0).Z 63)) (64 + r1) ((ofB x0).O 63))).map some), 48⟩]) rfl rfl (by rfl) (fun x => x.setCell ⟨k2, 64 + r1, none⟩ (.bool ((ofB x0).O 63))) (by intro x hx; have z0 := hx.fn 3 (64 + r1) rfl (by omega); have q0 := hx.soft 3 (64 + r1) rfl; go_simp; (first | done | rfl)) (fun x hx => hx.fnset 3 (64 + r1) ((ofB x0).O 63) rfl) ?_
      clear HS
      refine ld fun W13 HS => ?_
      go_upto_region 8 with fail
      refine lnb HS.out rfl ?_
      refine lm 0 11 rfl rfl rfl rfl ?_
      simp only [sA, sB]
      refine lv 1 (.int .i64 ((r1 + 1 : Nat) : Int)) rfl rfl (by intro x hx; go_simp; (first | done | exact addN r1 1 (by omega) | exact congrArg _ (addN r1 1 (by omega)) | (rw [addN r1 1 (by omega)]; done) | (rw [addN r1 1 (by omega)]; rfl))) ?_
      simp only [sA, sB]
      refine la 2 24 rfl rfl rfl rfl ?_
      simp only [sA, sB]
      clear HS
      refine ld fun W14 HS => ?_
      go_wp2
      first | exact ⟨hlt1, hid ⟨_, _, _, _, _, _, _, _, _, _, _, _, _, _, _, _, _, _, _, _, _, _, _, _, _, _, _, _, _, _, _, _, _, _, _, _, _, _, _, _, rfl, (by have h := HS.out; rw [upd_lo (by omega), upd_hi, upto_next (mov_zs (from_dnsg h2.out)), upto_next (mov_os (from_dnsg h2.out))] at h; exact h)⟩⟩ | exact hid ⟨_, _, _, _, _, _, _, _, _, _, _, _, _, _, _, _, _, _, _, _, _, _, _, _, _, _, _, _, _, _, _, _, _, _, _, _, _, _, _, _, rfl, (by have h := HS.out; rw [upd_lo (by omega), upd_hi, upto_next (mov_zs (from_dnsg h2.out)), upto_next (mov_os (from_dnsg h2.out))] at h; exact h)⟩ | exact (by have h := HS.out; rw [upd_lo (by omega), upd_hi, upto_next (mov_zs (from_dnsg h2.out)), upto_next (mov_os (from_dnsg h2.out))] at h; exact h)
   · have hN1 := hid (show r1 = 64 by omega)
     replace HS := hid (show St w [⟨w.heap.size, [some (.int .u64 (tn (x0.lo))), some (.int .u64 (tn (x0.hi)))], 24⟩, ⟨w.heap.size + 1, [some (.int .u64 0), some (.int .u64 0)], 24⟩, ⟨k1, ((fnV 128 (two 64 (ofB x0).Z (ofB x0).O)).map some), 48⟩, ⟨k2, ((fnV 128 (two 64 (movB false true (ofB x0) K).Z (movB false true (ofB x0) K).O)).map some), 48⟩] W from (by have h := HS.out; rw [hN1.out, bits_all] at h; exact h))
     go_upto_region 7 with fail
     refine lnb HS.out rfl ?_
     refine lm 0 11 rfl rfl rfl rfl ?_
     simp only [sA, sB]
     refine lv 1 (.bool false) rfl rfl (by intro x hx; go_simp; (first | done | omega | (simp; omega))) ?_
     simp only [sA, sB]
     clear HS
     refine ld fun W6 HS => ?_
     go_upto_region 18 with fail
     refine lnb HS.out rfl ?_
     refine lv 0 (.agg (fnV 128 (two 64 (movB false true (ofB x0) K).Z (movB false true (ofB x0) K).O)).toArray) rfl rfl (by intro x hx; exact loadF hx 3 rfl rfl rfl (fun w => by kernel_rfl) (fun w => by kernel_rfl)) ?_
     simp only [sA, sB]
     refine lc 1 44 #[.agg (fnV 128 (two 64 (movB false true (ofB x0) K).Z (movB false true (ofB x0) K).O)).toArray] (vU (tnumB (movB false true (ofB x0) K))) rfl rfl (by intro x hx; exact ref_Tnum_any (movB false true (ofB x0) K) _) ?_
     simp only [sA, sB, vU]
     refine ls 2 1 0 (cU (tnumB (movB false true (ofB x0) K))) rfl rfl rfl (by intro x hx; obtain ⟨⟨_, z0, q0⟩, ⟨_, z1, q1⟩⟩ := hx.at2 1 0 rfl; go_simp; (first | done | rfl)) ?_
     simp only [Blk.putC, setM, cU, sA, sB]
     clear HS
     refine ld fun W7 HS => ?_
     go_wp2
     obtain ⟨r0, r1⟩ := HS.out.two 1 0 rfl rfl
     exact bodyPost_ret (v := vU (tnumB (movB false true (ofB x0) K))) (by simp [results, Tryd.results24, go_sem, r0, r1, vU]) rfl ⟨rfl, HS.out.below⟩
  ·have hd1 := of_decide_eq_true h1; replace h1 := hid h1
   go_upto_region 3 with fail
   refine lnb HS.out rfl ?_
   refine lm 0 1 rfl rfl rfl rfl ?_
   simp only [sA, sB]
   refine lv 1 (.int .i64 ((K : Nat) : Int)) rfl rfl (by intro x hx; go_simp; (first | done | exact mov_add HM.out (by omega) h1.out)) ?_
   simp only [sA, sB]
   refine la 2 18 rfl rfl rfl rfl ?_
   simp only [sA, sB]
   clear HS
   refine ld fun W3 HS => ?_
   go_upto_region 4 with fail
   refine lnb HS.out rfl ?_
   refine lv 0 (vU x0) rfl rfl (by intro x hx; obtain ⟨f0, f1⟩ := hx.two 0 0 rfl rfl; go_simp; (first | done | exact rfl)) ?_
   simp only [sA, sB, vU]
   refine lc 1 43 #[vU x0] (.agg (fnV 128 (two 64 (ofB x0).Z (ofB x0).O)).toArray) rfl rfl (by intro x hx; exact ref_Of_any x0 _) ?_
   simp only [sA, sB]
   refine lin_new (i := 2) rfl rfl (by rfl) (fnV 128 (fun _ => false)) 48 (fun k => .pointer (some ⟨k, 0, none⟩)) ((fnV 128 (fun _ => false)).map some) (lessC_refl _) (by intro x hx; go_simp; (first | done | exact rfl)) (fun k1 => ?_)
   simp only [sA, sB, sC, sD]
   refine lin_store (i := 3) (St w [⟨w.heap.size, [some (.int .u64 (tn (x0.lo))), some (.int .u64 (tn (x0.hi)))], 24⟩, ⟨w.heap.size + 1, [some (.int .u64 0), some (.int .u64 0)], 24⟩, ⟨k1, ((fnV 128 (two 64 (ofB x0).Z (ofB x0).O)).map some), 48⟩]) rfl rfl (by rfl) (fun x => x.setCells k1 0 (fnV 128 (two 64 (ofB x0).Z (ofB x0).O))) (by intro x hx; exact storeF hx 2 rfl (by simp [fnV_len]) (fnV_one _ _) rfl rfl rfl (fun w => by rw [fnV_len]; kernel_rfl)) (fun x hx => hx.putF 2 _ rfl (by simp [fnV_len])) ?_
   clear HS
   refine ld fun W4 HS => ?_
   go_upto_region 5 with fail
   refine lnb HS.out rfl ?_
   refine lin_new (i := 0) rfl rfl (by rfl) (fnV 128 (fun _ => false)) 48 (fun k => .pointer (some ⟨k, 0, none⟩)) ((fnV 128 (fun _ => false)).map some) (lessC_refl _) (by intro x hx; go_simp; (first | done | exact rfl)) (fun k2 => ?_)
   simp only [sA, sB, sC, sD]
   clear HS
   refine ld fun W5 HS => ?_
   go_upto_region 6 with fail
   refine lnb HS.out rfl ?_
   refine lv 0 (.int .i64 0) rfl rfl (by intro x hx; go_simp; (first | done | exact rfl)) ?_
   simp only [sA, sB]
   clear HS
   refine ld fun W6 HS => ?_
   go_wp2
   refine loop_up 64 (fun k a W => Hid (∃ u2_12 u2_21 u2_22 u2_23 u2_24 u2_25 u2_26 u2_27 u2_28 u2_29 u2_30 u2_31 u2_32 u2_33 u2_34 u2_35 u2_36 u2_37 u2_38 u2_39 u2_40 u2_41 u2_42 u2_43 u2_44 u2_45 u2_46 u2_47 u2_48 u2_49 u2_50 u2_51 u2_52 u2_53 u2_54 u2_55 u2_56 u2_57 u2_58 u2_59 : Value, a = Act.mk [vU x0, .int .i64 ((K : Nat) : Int), .bool false, .bool true, .pointer (some ⟨w.heap.size, 0, none⟩), undef, undef, undef, .pointer (some ⟨w.heap.size + 1, 0, none⟩), .pointer (some ⟨k1, 0, none⟩), .pointer (some ⟨k2, 0, none⟩), .int .i64 ((k : Nat) : Int), u2_12, .int .i64 (ti (x1)), .int .i64 ((ti x1).tmod 64), .int .i64 ((ti x1).tmod 64), .bool true, .int .i64 ((ti x1).tmod 64), .int .i64 ((K : Nat) : Int), vU x0, .agg (fnV 128 (two 64 (ofB x0).Z (ofB x0).O)).toArray, u2_21, u2_22, u2_23, u2_24, u2_25, u2_26, u2_27, u2_28, u2_29, u2_30, u2_31, u2_32, u2_33, u2_34, u2_35, u2_36, u2_37, u2_38, u2_39, u2_40, u2_41, u2_42, u2_43, u2_44, u2_45, u2_46, u2_47, u2_48, u2_49, u2_50, u2_51, u2_52, u2_53, u2_54, u2_55, u2_56, u2_57, u2_58, u2_59, undef, undef].toArray [] ∧ St w [⟨w.heap.size, [some (.int .u64 (tn (x0.lo))), some (.int .u64 (tn (x0.hi)))], 24⟩, ⟨w.heap.size + 1, [some (.int .u64 0), some (.int .u64 0)], 24⟩, ⟨k1, ((fnV 128 (two 64 (ofB x0).Z (ofB x0).O)).map some), 48⟩, ⟨k2, ((fnV 128 (two 64 (upto k (movB false true (ofB x0) K).Z) (upto k (movB false true (ofB x0) K).O))).map some), 48⟩] W)) (hid ⟨(undef), (undef), (undef), (undef), (undef), (undef), (undef), (undef), (undef), (undef), (undef), (undef), (undef), (undef), (undef), (undef), (undef), (undef), (undef), (undef), (undef), (undef), (undef), (undef), (undef), (undef), (undef), (undef), (undef), (undef), (undef), (undef), (undef), (undef), (undef), (undef), (undef), (undef), (undef), (undef), rfl, (by have h := HS.out; rw [← bits_none (movB false true (ofB x0) K).Z (movB false true (ofB x0) K).O] at h; exact h)⟩) (fun r2 a W hr hR => ?_)
   obtain ⟨u2_12, u2_21, u2_22, u2_23, u2_24, u2_25, u2_26, u2_27, u2_28, u2_29, u2_30, u2_31, u2_32, u2_33, u2_34, u2_35, u2_36, u2_37, u2_38, u2_39, u2_40, u2_41, u2_42, u2_43, u2_44, u2_45, u2_46, u2_47, u2_48, u2_49, u2_50, u2_51, u2_52, u2_53, u2_54, u2_55, u2_56, u2_57, u2_58, u2_59, rfl, hS⟩ := hR.out
   replace HS := hid hS
   clear hS hR
   by_cases hlt2 : r2 < 64
   · -- round
     go_upto_region 7 with fail
     refine lnb HS.out rfl ?_
     refine lm 0 11 rfl rfl rfl rfl ?_
     simp only [sA, sB]
     refine lv 1 (.bool true) rfl rfl (by intro x hx; go_simp; (first | done | omega | (simp; omega))) ?_
     simp only [sA, sB]
     clear HS
     refine ld fun W7 HS => ?_
     go_upto_region 9 with fail
     refine lnb HS.out rfl ?_
     refine lm 0 11 rfl rfl rfl rfl ?_
     simp only [sA, sB]
     refine lm 1 1 rfl rfl rfl rfl ?_
     simp only [sA, sB]
     refine lv 2 (.int .i64 ((r2 + K : Nat) : Int)) rfl rfl (by intro x hx; go_simp; (first | done | exact addN r2 K (by omega) | exact congrArg _ (addN r2 K (by omega)) | (rw [addN r2 K (by omega)]; done) | (rw [addN r2 K (by omega)]; rfl))) ?_
     simp only [sA, sB]
     refine la 3 27 rfl rfl rfl rfl ?_
     simp only [sA, sB]
     clear HS
     refine ld fun W8 HS => ?_
     go_upto_region 10 with fail
     refine lnb HS.out rfl ?_
     refine lm 0 2 rfl rfl rfl rfl ?_
     simp only [sA, sB]
     clear HS
     refine ld fun W9 HS => ?_
     go_upto_region 12 with fail
     refine lnb HS.out rfl ?_
     refine lm 0 12 rfl rfl rfl rfl ?_
     simp only [sA, sB]
     refine lv 1 (.bool ((decide ((r2 + K) > 63)))) rfl rfl (by intro x hx; go_simp; (first | done | exact decide_eq_decide.2 (by omega) | omega | (trace_state; sorry))) ?_
     simp only [sA, sB]
     refine lm 2 33 rfl rfl rfl rfl ?_
     simp only [sA, sB]
     cases h2 : ((decide ((r2 + K) > 63)))
     ·have hd2 := of_decide_eq_false h2; replace h2 := hid h2
      refine lin_no (i := 3) rfl rfl (by kernel_rfl) ?_
      simp only [sA, sB]
      refine lv 4 (.bool false) rfl rfl (by intro x hx; go_simp; (first | done | exact rfl)) ?_
      simp only [sA, sB]
      clear HS
      refine ld fun W10 HS => ?_
      go_upto_region 14 with fail
      refine lnb HS.out rfl ?_
      refine lm 0 12 rfl rfl rfl rfl ?_
      simp only [sA, sB]
      refine lv 1 (.bool ((decide ((r2 + K) < 0)))) rfl rfl (by intro x hx; go_simp; (first | done | exact decide_eq_decide.2 (by omega) | omega | (trace_state; sorry))) ?_
      simp only [sA, sB]
      refine lm 2 38 rfl rfl rfl rfl ?_
      simp only [sA, sB]
      cases h3 : ((decide ((r2 + K) < 0)))
      ·have hd3 := of_decide_eq_false h3; replace h3 := hid h3
       refine lv 3 (.int .i64 ((r2 + K : Nat) : Int)) rfl rfl (by intro x hx; go_simp; (first | done | exact rfl)) ?_
       simp only [sA, sB]
       refine lv 4 (.bool ((decide ((r2 + K) > 63)))) rfl rfl (by intro x hx; go_simp; (first | done | exact decide_eq_decide.2 (by omega) | omega | (trace_state; sorry))) ?_
       simp only [sA, sB]
       refine lv 5 (.bool ((decide ((r2 + K) > 63)))) rfl rfl (by intro x hx; go_simp; (first | done | exact rfl)) ?_
       simp only [sA, sB]
       clear HS
       refine ld fun W11 HS => ?_
       rw [show ((decide ((r2 + K) > 63))) = false from h2.out]
       go_upto_region 16 with fail
       refine lnb HS.out rfl ?_
       refine lm 0 11 rfl rfl rfl rfl ?_
       simp only [sA, sB]
       refine lm 1 12 rfl rfl rfl rfl ?_
       simp only [sA, sB]
       refine lv 2 (.pointer (some ⟨k1, 0, none⟩)) rfl rfl (by intro x hx; go_simp; (first | done | exact rfl)) ?_
       simp only [sA, sB]
       refine lv 3 (.pointer (some ⟨k1, r2 + K, none⟩)) rfl rfl (by intro x hx; go_simp; first | (rw [if_pos (by omega)]; done) | (rw [if_pos (by omega)]; rfl) | (intro hq; exfalso; omega) | (simp; omega)) ?_
       simp only [sA, sB]
       refine lv 4 (.bool ((ofB x0).Z (r2 + K))) rfl rfl (by intro x hx; have f0 := hx.fn 2 (r2 + K) rfl (by omega); rw [two_lo (by omega)] at f0; go_simp; (first | done | exact rfl)) ?_
       simp only [sA, sB]
       refine lv 5 (.pointer (some ⟨k2, 0, none⟩)) rfl rfl (by intro x hx; go_simp; (first | done | exact rfl)) ?_
       simp only [sA, sB]
       refine lv 6 (.pointer (some ⟨k2, r2, none⟩)) rfl rfl (by intro x hx; go_simp; first | (rw [if_pos (by omega)]; done) | (rw [if_pos (by omega)]; rfl) | (intro hq; exfalso; omega) | (simp; omega)) ?_
       simp only [sA, sB]
       refine lin_store (i := 7) (St w [⟨w.heap.size, [some (.int .u64 (tn (x0.lo))), some (.int .u64 (tn (x0.hi)))], 24⟩, ⟨w.heap.size + 1, [some (.int .u64 0), some (.int .u64 0)], 24⟩, ⟨k1, ((fnV 128 (two 64 (ofB x0).Z (ofB x0).O)).map some), 48⟩, ⟨k2, ((fnV 128 (upd (two 64 (upto r2 (movB false true (ofB x0) K).Z) (upto r2 (movB false true (ofB x0) K).O)) r2 ((ofB x0).Z (r2 + K)))).map some), 48⟩]) rfl rfl (by rfl) (fun x => x.setCell ⟨k2, r2, none⟩ (.bool ((ofB x0).Z (r2 + K)))) (by intro x hx; have z0 := hx.fn 3 (r2) rfl (by omega); have q0 := hx.soft 3 (r2) rfl; go_simp; (first | done | rfl)) (fun x hx => hx.fnset 3 (r2) ((ofB x0).Z (r2 + K)) rfl) ?_
       clear HS
       refine ld fun W12 HS => ?_
       go_upto_region 17 with fail
       refine lnb HS.out rfl ?_
       refine lm 0 11 rfl rfl rfl rfl ?_
       simp only [sA, sB]
       refine lm 1 12 rfl rfl rfl rfl ?_
       simp only [sA, sB]
       refine lv 2 (.pointer (some ⟨k1, 64, none⟩)) rfl rfl (by intro x hx; go_simp; (first | done | exact rfl)) ?_
       simp only [sA, sB]
       refine lv 3 (.pointer (some ⟨k1, 64 + (r2 + K), none⟩)) rfl rfl (by intro x hx; go_simp; first | (rw [if_pos (by omega)]; done) | (rw [if_pos (by omega)]; rfl) | (intro hq; exfalso; omega) | (simp; omega)) ?_
       simp only [sA, sB]
       refine lv 4 (.bool ((ofB x0).O (r2 + K))) rfl rfl (by intro x hx; have f0 := hx.fn 2 (64 + (r2 + K)) rfl (by omega); rw [two_hi] at f0; go_simp; (first | done | exact rfl)) ?_
       simp only [sA, sB]
       refine lv 5 (.pointer (some ⟨k2, 64, none⟩)) rfl rfl (by intro x hx; go_simp; (first | done | exact rfl)) ?_
       simp only [sA, sB]
       refine lv 6 (.pointer (some ⟨k2, 64 + r2, none⟩)) rfl rfl (by intro x hx; go_simp; first | (rw [if_pos (by omega)]; done) | (rw [if_pos (by omega)]; rfl) | (intro hq; exfalso; omega) | (simp; omega)) ?_
       simp only [sA, sB]
       refine lin_store (i := 7) (St w [⟨w.heap.size, [some (.int .u64 (tn (x0.lo))), some (.int .u64 (tn (x0.hi)))], 24⟩, ⟨w.heap.size + 1, [some (.int .u64 0), some (.int .u64 0)], 24⟩, ⟨k1, ((fnV 128 (two 64 (ofB x0).Z (ofB x0).O)).map some), 48⟩, ⟨k2, ((fnV 128 (upd (upd (two 64 (upto r2 (movB false true (ofB x0) K).Z) (upto r2 (movB false true (ofB x0) K).O)) r2 ((ofB x0).Z (r2 + K))) (64 + r2) ((ofB x0).O (r2 + K)))).map some), 48⟩]) rfl rfl (by rfl) (fun x => x.setCell ⟨k2, 64 + r2, none⟩ (.bool ((ofB x0).O (r2 + K)))) (by intro x hx; have z0 := hx.fn 3 (64 + r2) rfl (by omega); have q0 := hx.soft 3 (64 + r2) rfl; go_simp; (first | done | rfl)) (fun x hx => hx.fnset 3 (64 + r2) ((ofB x0).O (r2 + K)) rfl) ?_
       clear HS
       refine ld fun W13 HS => ?_
       go_upto_region 8 with fail
       refine lnb HS.out rfl ?_
       refine lm 0 11 rfl rfl rfl rfl ?_
       simp only [sA, sB]
       refine lv 1 (.int .i64 ((r2 + 1 : Nat) : Int)) rfl rfl (by intro x hx; go_simp; (first | done | exact addN r2 1 (by omega) | exact congrArg _ (addN r2 1 (by omega)) | (rw [addN r2 1 (by omega)]; done) | (rw [addN r2 1 (by omega)]; rfl))) ?_
       simp only [sA, sB]
       refine la 2 24 rfl rfl rfl rfl ?_
       simp only [sA, sB]
       clear HS
       refine ld fun W14 HS => ?_
       go_wp2
       first | exact ⟨hlt2, hid ⟨_, _, _, _, _, _, _, _, _, _, _, _, _, _, _, _, _, _, _, _, _, _, _, _, _, _, _, _, _, _, _, _, _, _, _, _, _, _, _, _, rfl, (by have h := HS.out; rw [upd_lo (by omega), upd_hi, upto_next (mov_zs (from_dn h2.out)), upto_next (mov_os (from_dn h2.out))] at h; exact h)⟩⟩ | exact hid ⟨_, _, _, _, _, _, _, _, _, _, _, _, _, _, _, _, _, _, _, _, _, _, _, _, _, _, _, _, _, _, _, _, _, _, _, _, _, _, _, _, rfl, (by have h := HS.out; rw [upd_lo (by omega), upd_hi, upto_next (mov_zs (from_dn h2.out)), upto_next (mov_os (from_dn h2.out))] at h; exact h)⟩ | exact (by have h := HS.out; rw [upd_lo (by omega), upd_hi, upto_next (mov_zs (from_dn h2.out)), upto_next (mov_os (from_dn h2.out))] at h; exact h)
      ·have hd3 := of_decide_eq_true h3; replace h3 := hid h3
       refine lin_no (i := 3) rfl rfl (by kernel_rfl) ?_
       simp only [sA, sB]
       refine lin_no (i := 4) rfl rfl (by kernel_rfl) ?_
       simp only [sA, sB]
       refine lv 5 (.bool true) rfl rfl (by intro x hx; go_simp; (first | done | exact rfl)) ?_
       simp only [sA, sB]
       clear HS
       refine ld fun W11 HS => ?_
       go_upto_region 15 with fail
       refine lnb HS.out rfl ?_
       refine lm 0 11 rfl rfl rfl rfl ?_
       simp only [sA, sB]
       refine lv 1 (.pointer (some ⟨k2, 0, none⟩)) rfl rfl (by intro x hx; go_simp; (first | done | exact rfl)) ?_
       simp only [sA, sB]
       refine lv 2 (.pointer (some ⟨k2, r2, none⟩)) rfl rfl (by intro x hx; go_simp; first | (rw [if_pos (by omega)]; done) | (rw [if_pos (by omega)]; rfl) | (intro hq; exfalso; omega) | (simp; omega)) ?_
       simp only [sA, sB]
       refine lin_store (i := 3) (St w [⟨w.heap.size, [some (.int .u64 (tn (x0.lo))), some (.int .u64 (tn (x0.hi)))], 24⟩, ⟨w.heap.size + 1, [some (.int .u64 0), some (.int .u64 0)], 24⟩, ⟨k1, ((fnV 128 (two 64 (ofB x0).Z (ofB x0).O)).map some), 48⟩, ⟨k2, ((fnV 128 (upd (two 64 (upto r2 (movB false true (ofB x0) K).Z) (upto r2 (movB false true (ofB x0) K).O)) r2 true)).map some), 48⟩]) rfl rfl (by rfl) (fun x => x.setCell ⟨k2, r2, none⟩ (.bool true)) (by intro x hx; have z0 := hx.fn 3 (r2) rfl (by omega); have q0 := hx.soft 3 (r2) rfl; go_simp; (first | done | rfl)) (fun x hx => hx.fnset 3 (r2) true rfl) ?_
       clear HS
       refine ld fun W12 HS => ?_
       go_upto_region 8 with fail
       refine lnb HS.out rfl ?_
       refine lm 0 11 rfl rfl rfl rfl ?_
       simp only [sA, sB]
       refine lv 1 (.int .i64 ((r2 + 1 : Nat) : Int)) rfl rfl (by intro x hx; go_simp; (first | done | exact addN r2 1 (by omega) | exact congrArg _ (addN r2 1 (by omega)) | (rw [addN r2 1 (by omega)]; done) | (rw [addN r2 1 (by omega)]; rfl))) ?_
       simp only [sA, sB]
       refine la 2 24 rfl rfl rfl rfl ?_
       simp only [sA, sB]
       clear HS
       refine ld fun W13 HS => ?_
       go_wp2
       first | exact ⟨hlt2, hid ⟨_, _, _, _, _, _, _, _, _, _, _, _, _, _, _, _, _, _, _, _, _, _, _, _, _, _, _, _, _, _, _, _, _, _, _, _, _, _, _, _, rfl, (by exfalso; have := of_decide_eq_true h3.out; omega)⟩⟩ | exact hid ⟨_, _, _, _, _, _, _, _, _, _, _, _, _, _, _, _, _, _, _, _, _, _, _, _, _, _, _, _, _, _, _, _, _, _, _, _, _, _, _, _, rfl, (by exfalso; have := of_decide_eq_true h3.out; omega)⟩ | exact (by exfalso; have := of_decide_eq_true h3.out; omega)
     ·have hd2 := of_decide_eq_true h2; replace h2 := hid h2
      refine lv 3 (.bool true) rfl rfl (by intro x hx; go_simp; (first | done | exact rfl)) ?_
      simp only [sA, sB]
      refine lv 4 (.bool true) rfl rfl (by intro x hx; go_simp; (first | done | exact rfl)) ?_
      simp only [sA, sB]
      clear HS
      refine ld fun W10 HS => ?_
      go_upto_region 13 with fail
      refine lnb HS.out rfl ?_
      refine lv 0 (.int .i64 63) rfl rfl (by intro x hx; go_simp; (first | done | exact rfl)) ?_
      simp only [sA, sB]
      clear HS
      refine ld fun W11 HS => ?_
      go_upto_region 14 with fail
      refine lnb HS.out rfl ?_
      refine lm 0 12 rfl rfl rfl rfl ?_
      simp only [sA, sB]
      refine lv 1 (.bool false) rfl rfl (by intro x hx; go_simp; (first | done | exact rfl)) ?_
      simp only [sA, sB]
      refine lm 2 38 rfl rfl rfl rfl ?_
      simp only [sA, sB]
      refine lv 3 (.int .i64 63) rfl rfl (by intro x hx; go_simp; (first | done | exact rfl)) ?_
      simp only [sA, sB]
      refine lv 4 (.bool false) rfl rfl (by intro x hx; go_simp; (first | done | exact rfl)) ?_
      simp only [sA, sB]
      refine lv 5 (.bool false) rfl rfl (by intro x hx; go_simp; (first | done | exact rfl)) ?_
      simp only [sA, sB]
      clear HS
      refine ld fun W12 HS => ?_
      go_upto_region 16 with fail
      refine lnb HS.out rfl ?_
      refine lm 0 11 rfl rfl rfl rfl ?_
      simp only [sA, sB]
      refine lm 1 12 rfl rfl rfl rfl ?_
      simp only [sA, sB]
      refine lv 2 (.pointer (some ⟨k1, 0, none⟩)) rfl rfl (by intro x hx; go_simp; (first | done | exact rfl)) ?_
      simp only [sA, sB]
      refine lv 3 (.pointer (some ⟨k1, 63, none⟩)) rfl rfl (by intro x hx; go_simp; (first | done | exact rfl)) ?_
      simp only [sA, sB]
      refine lv 4 (.bool ((ofB x0).Z 63)) rfl rfl (by intro x hx; have f0 := hx.fn 2 (63) rfl (by omega); rw [two_lo (by omega)] at f0; go_simp; (first | done | exact rfl)) ?_
      simp only [sA, sB]
      refine lv 5 (.pointer (some ⟨k2, 0, none⟩)) rfl rfl (by intro x hx; go_simp; (first | done | exact rfl)) ?_
      simp only [sA, sB]
      refine lv 6 (.pointer (some ⟨k2, r2, none⟩)) rfl rfl (by intro x hx; go_simp; first | (rw [if_pos (by omega)]; done) | (rw [if_pos (by omega)]; rfl) | (intro hq; exfalso; omega) | (simp; omega)) ?_
      simp only [sA, sB]
      refine lin_store (i := 7) (St w [⟨w.heap.size, [some (.int .u64 (tn (x0.lo))), some (.int .u64 (tn (x0.hi)))], 24⟩, ⟨w.heap.size + 1, [some (.int .u64 0), some (.int .u64 0)], 24⟩, ⟨k1, ((fnV 128 (two 64 (ofB x0).Z (ofB x0).O)).map some), 48⟩, ⟨k2, ((fnV 128 (upd (two 64 (upto r2 (movB false true (ofB x0) K).Z) (upto r2 (movB false true (ofB x0) K).O)) r2 ((ofB x0).Z 63))).map some), 48⟩]) rfl rfl (by rfl) (fun x => x.setCell ⟨k2, r2, none⟩ (.bool ((ofB x0).Z 63))) (by intro x hx; have z0 := hx.fn 3 (r2) rfl (by omega); have q0 := hx.soft 3 (r2) rfl; go_simp; (first | done | rfl)) (fun x hx => hx.fnset 3 (r2) ((ofB x0).Z 63) rfl) ?_
      clear HS
      refine ld fun W13 HS => ?_
      go_upto_region 17 with fail
      refine lnb HS.out rfl ?_
      refine lm 0 11 rfl rfl rfl rfl ?_
      simp only [sA, sB]
      refine lm 1 12 rfl rfl rfl rfl ?_
      simp only [sA, sB]
      refine lv 2 (.pointer (some ⟨k1, 64, none⟩)) rfl rfl (by intro x hx; go_simp; (first | done | exact rfl)) ?_
      simp only [sA, sB]
      refine lv 3 (.pointer (some ⟨k1, 127, none⟩)) rfl rfl (by intro x hx; go_simp; (first | done | exact rfl)) ?_
      simp only [sA, sB]
      refine lv 4 (.bool ((ofB x0).O 63)) rfl rfl (by intro x hx; have f0 := hx.fn 2 (127) rfl (by omega); rw [show two 64 ((ofB x0).Z) ((ofB x0).O) 127 = (ofB x0).O 63 from two_hi (n := 64) (k := 63)] at f0; go_simp; (first | done | exact rfl)) ?_
      simp only [sA, sB]
      refine lv 5 (.pointer (some ⟨k2, 64, none⟩)) rfl rfl (by intro x hx; go_simp; (first | done | exact rfl)) ?_
      simp only [sA, sB]
      refine lv 6 (.pointer (some ⟨k2, 64 + r2, none⟩)) rfl rfl (by intro x hx; go_simp; first | (rw [if_pos (by omega)]; done) | (rw [if_pos (by omega)]; rfl) | (intro hq; exfalso; omega) | (simp; omega)) ?_
      simp only [sA, sB]
      refine lin_store (i := 7) (St w [⟨w.heap.size, [some (.int .u64 (tn (x0.lo))), some (.int .u64 (tn (x0.hi)))], 24⟩, ⟨w.heap.size + 1, [some (.int .u64 0), some (.int .u64 0)], 24⟩, ⟨k1, ((fnV 128 (two 64 (ofB x0).Z (ofB x0).O)).map some), 48⟩, ⟨k2, ((fnV 128 (upd (upd (two 64 (upto r2 (movB false true (ofB x0) K).Z) (upto r2 (movB false true (ofB x0) K).O)) r2 ((ofB x0).Z 63)) (64 + r2) ((ofB x0).O 63))).map some), 48⟩]) rfl rfl (by rfl) (fun x => x.setCell ⟨k2, 64 + r2, none⟩ (.bool ((ofB x0).O 63))) (by intro x hx; have z0 := hx.fn 3 (64 + r2) rfl (by omega); have q0 := hx.soft 3 (64 + r2) rfl; go_simp; (first | done | rfl)) (fun x hx => hx.fnset 3 (64 + r2) ((ofB x0).O 63) rfl) ?_
      clear HS
      refine ld fun W14 HS => ?_
      go_upto_region 8 with fail
      refine lnb HS.out rfl ?_
      refine lm 0 11 rfl rfl rfl rfl ?_
      simp only [sA, sB]
      refine lv 1 (.int .i64 ((r2 + 1 : Nat) : Int)) rfl rfl (by intro x hx; go_simp; (first | done | exact addN r2 1 (by omega) | exact congrArg _ (addN r2 1 (by omega)) | (rw [addN r2 1 (by omega)]; done) | (rw [addN r2 1 (by omega)]; rfl))) ?_
      simp only [sA, sB]
      refine la 2 24 rfl rfl rfl rfl ?_
      simp only [sA, sB]
      clear HS
      refine ld fun W15 HS => ?_
      go_wp2
      first | exact ⟨hlt2, hid ⟨_, _, _, _, _, _, _, _, _, _, _, _, _, _, _, _, _, _, _, _, _, _, _, _, _, _, _, _, _, _, _, _, _, _, _, _, _, _, _, _, rfl, (by have h := HS.out; rw [upd_lo (by omega), upd_hi, upto_next (mov_zs (from_dnsg h2.out)), upto_next (mov_os (from_dnsg h2.out))] at h; exact h)⟩⟩ | exact hid ⟨_, _, _, _, _, _, _, _, _, _, _, _, _, _, _, _, _, _, _, _, _, _, _, _, _, _, _, _, _, _, _, _, _, _, _, _, _, _, _, _, rfl, (by have h := HS.out; rw [upd_lo (by omega), upd_hi, upto_next (mov_zs (from_dnsg h2.out)), upto_next (mov_os (from_dnsg h2.out))] at h; exact h)⟩ | exact (by have h := HS.out; rw [upd_lo (by omega), upd_hi, upto_next (mov_zs (from_dnsg h2.out)), upto_next (mov_os (from_dnsg h2.out))] at h; exact h)
   · have hN2 := hid (show r2 = 64 by omega)
     replace HS := hid (show St w [⟨w.heap.size, [some (.int .u64 (tn (x0.lo))), some (.int .u64 (tn (x0.hi)))], 24⟩, ⟨w.heap.size + 1, [some (.int .u64 0), some (.int .u64 0)], 24⟩, ⟨k1, ((fnV 128 (two 64 (ofB x0).Z (ofB x0).O)).map some), 48⟩, ⟨k2, ((fnV 128 (two 64 (movB false true (ofB x0) K).Z (movB false true (ofB x0) K).O)).map some), 48⟩] W from (by have h := HS.out; rw [hN2.out, bits_all] at h; exact h))
     go_upto_region 7 with fail
     refine lnb HS.out rfl ?_
     refine lm 0 11 rfl rfl rfl rfl ?_
     simp only [sA, sB]
     refine lv 1 (.bool false) rfl rfl (by intro x hx; go_simp; (first | done | omega | (simp; omega))) ?_
     simp only [sA, sB]
     clear HS
     refine ld fun W7 HS => ?_
     go_upto_region 18 with fail
     refine lnb HS.out rfl ?_
     refine lv 0 (.agg (fnV 128 (two 64 (movB false true (ofB x0) K).Z (movB false true (ofB x0) K).O)).toArray) rfl rfl (by intro x hx; exact loadF hx 3 rfl rfl rfl (fun w => by kernel_rfl) (fun w => by kernel_rfl)) ?_
     simp only [sA, sB]
     refine lc 1 44 #[.agg (fnV 128 (two 64 (movB false true (ofB x0) K).Z (movB false true (ofB x0) K).O)).toArray] (vU (tnumB (movB false true (ofB x0) K))) rfl rfl (by intro x hx; exact ref_Tnum_any (movB false true (ofB x0) K) _) ?_
     simp only [sA, sB, vU]
     refine ls 2 1 0 (cU (tnumB (movB false true (ofB x0) K))) rfl rfl rfl (by intro x hx; obtain ⟨⟨_, z0, q0⟩, ⟨_, z1, q1⟩⟩ := hx.at2 1 0 rfl; go_simp; (first | done | rfl)) ?_
     simp only [Blk.putC, setM, cU, sA, sB]
     clear HS
     refine ld fun W8 HS => ?_
     go_wp2
     obtain ⟨r0, r1⟩ := HS.out.two 1 0 rfl rfl
     exact bodyPost_ret (v := vU (tnumB (movB false true (ofB x0) K))) (by simp [results, Tryd.results24, go_sem, r0, r1, vU]) rfl ⟨rfl, HS.out.below⟩
end Go.Proofs.YtpbhfpogbndljaaDoor.Rt
