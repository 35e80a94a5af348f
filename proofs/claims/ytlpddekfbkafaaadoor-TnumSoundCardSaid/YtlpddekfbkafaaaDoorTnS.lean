/-
  The walk of the law TnumSound.
-/
import Derived.Test.YtlpddekfbkafaaaDoorTnP
namespace Go.Proofs.YtlpddekfbkafaaaDoor.Tn
open Go.RowKit Go.Proofs.YtlpddekfbkafaaaDoor.Num Go.Proofs.YtlpddekfbkafaaaDoor.Up
theorem mulT (x y : BitVec 64) : IntKind.u64.wrap (tn x * tn y) = tn (x * y) := by rw [mul64, b64_tn, b64_tn]
theorem remT (x : BitVec 64) : tn x % 4294967296 = tn (x &&& 4294967295#64) := by
  have h : (x &&& 4294967295#64).toNat = x.toNat % 4294967296 := by
    rw [BitVec.toNat_and]
    exact Nat.and_two_pow_sub_one_eq_mod x.toNat 32
  unfold tn
  rw [h]
  omega
theorem lalu_any (op : Int) (x y : BitVec 64) (w : World) :
    Calls Tryd.prog 34 #[.int .i64 op, .int .u64 (tn x), .int .u64 (tn y)] w fun e w' => e = .returned (.int .u64 (tn (aluV 64 op x y))) ∧ Below w.heap.size w w' := by
  go_enter Tryd.func34, Tryd.ntmps34
  go_wp2_with fail
  refine (alu_T op x y _).mono ?_
  rintro e w' ⟨rfl, hb⟩
  go_wp2
  go_ret
  exact ⟨rfl, hb⟩
theorem boxesS (w : World) (a b : T) : Below w.heap.size w ((w.alloc (.cells #[.int .u64 (tn a.v), .int .u64 (tn a.m)] 24)).alloc (.cells #[.int .u64 (tn b.v), .int .u64 (tn b.m)] 24)) ∧ B1 ((w.alloc (.cells #[.int .u64 (tn a.v), .int .u64 (tn a.m)] 24)).alloc (.cells #[.int .u64 (tn b.v), .int .u64 (tn b.m)] 24)) w.heap.size a ∧ B1 ((w.alloc (.cells #[.int .u64 (tn a.v), .int .u64 (tn a.m)] 24)).alloc (.cells #[.int .u64 (tn b.v), .int .u64 (tn b.m)] 24)) (w.heap.size + 1) b := two_start w a b
set_option maxRecDepth 100000 in
set_option maxHeartbeats 4000000 in
theorem tnumSound (a b : T) (v u n : BitVec 64) (w : World) (hT : Tab w) :
    Calls Tryd.prog 4 #[a.val, b.val, .int .u64 (tn v), .int .u64 (tn u), .int .i64 n.toInt] w fun e w' => e = .returned (.bool true) ∧ Below w.heap.size w w' := by
  have HS := boxesS w a b
  obtain ⟨k, hk⟩ := exists_tz a.hi
  obtain ⟨l, hl⟩ := exists_tz b.hi
  have HK := hid hk
  have HL := hid hl
  clear hk hl
  have HT := hid (hT.up HS.1)
  clear hT
  unfold T.val
  go_enter Tryd.func4, Tryd.ntmps4
  go_upto_region 1 with fail
  obtain ⟨W0, hW0⟩ : ∃ W0, W0 = (w.alloc (.cells #[.int .u64 (tn a.v), .int .u64 (tn a.m)] 24)).alloc (.cells #[.int .u64 (tn b.v), .int .u64 (tn b.m)] 24) := ⟨_, rfl⟩
  rw [← hW0] at HS HT
  rw [← hW0]
  clear hW0
  have HA := hid HS.2.1
  have HBb := hid HS.2.2
  have HB := hid HS.1
  clear HS
  -- region 1
  refine lin_begin (Below W0.heap.size W0) rfl (Below.refl _ _) ?_
  refine lin_val (i := 0) rfl rfl (by rfl) (by intro x hx; have f := (HA.out.up hx).cells; obtain ⟨f0, f1⟩ := f; go_simp; (first | done | exact rfl)) ?_
  simp only [List.set_cons_succ, List.set_cons_zero]
  refine lin_val (i := 1) rfl rfl (by rfl) (by intro x hx; go_simp; (first | done | exact rfl)) ?_
  simp only [List.set_cons_succ, List.set_cons_zero]
  refine lin_call (i := 2) (f := 33) (args := #[a.val, .int .u64 (tn v)]) (ups_below (Nat.le_refl _)) rfl rfl (by rfl) (fun x hx => by kernel_rfl) (by intro x hx; exact some_any a v _) ?_
  simp only [List.set_cons_succ, List.set_cons_zero]
  refine lin_val (i := 3) rfl rfl (by rfl) (by intro x hx; go_simp; (first | done | exact rfl)) ?_
  simp only [List.set_cons_succ, List.set_cons_zero]
  refine lin_done ?_
  intro W1 hx
  replace HA := hid (HA.out.up hx)
  replace HBb := hid (HBb.out.up hx)
  replace HT := hid (HT.out.up hx)
  replace HB := hid (HB.out.trans (hx.mono HB.out.size))
  clear hx
  go_upto_region 2 with fail
  -- region 2
  refine lin_begin (Below W1.heap.size W1) rfl (Below.refl _ _) ?_
  refine lin_val (i := 0) rfl rfl (by rfl) (by intro x hx; have f := (HBb.out.up hx).cells; obtain ⟨f0, f1⟩ := f; go_simp; (first | done | exact rfl)) ?_
  simp only [List.set_cons_succ, List.set_cons_zero]
  refine lin_val (i := 1) rfl rfl (by rfl) (by intro x hx; go_simp; (first | done | exact rfl)) ?_
  simp only [List.set_cons_succ, List.set_cons_zero]
  refine lin_call (i := 2) (f := 33) (args := #[b.val, .int .u64 (tn u)]) (ups_below (Nat.le_refl _)) rfl rfl (by rfl) (fun x hx => by kernel_rfl) (by intro x hx; exact some_any b u _) ?_
  simp only [List.set_cons_succ, List.set_cons_zero]
  refine lin_val (i := 3) rfl rfl (by rfl) (by intro x hx; go_simp; (first | done | exact rfl)) ?_
  simp only [List.set_cons_succ, List.set_cons_zero]
  refine lin_done ?_
  intro W2 hx
  replace HA := hid (HA.out.up hx)
  replace HBb := hid (HBb.out.up hx)
  replace HT := hid (HT.out.up hx)
  replace HB := hid (HB.out.trans (hx.mono HB.out.size))
  clear hx
  go_upto_region 3 with fail
  -- region 3
  refine lin_begin (Below W2.heap.size W2) rfl (Below.refl _ _) ?_
  refine lin_val (i := 0) rfl rfl (by rfl) (by intro x hx; have f := (HA.out.up hx).cells; obtain ⟨f0, f1⟩ := f; go_simp; (first | done | exact rfl)) ?_
  simp only [List.set_cons_succ, List.set_cons_zero]
  refine lin_val (i := 1) rfl rfl (by rfl) (by intro x hx; go_simp; (first | done | exact rfl)) ?_
  simp only [List.set_cons_succ, List.set_cons_zero]
  refine lin_call (i := 2) (f := 26) (args := #[(a).val, .int .u64 (tn (someR a v))]) (ups_below (Nat.le_refl _)) rfl rfl (by rfl) (fun x hx => by kernel_rfl) (by intro x hx; exact in_is (a := a) (v := someR a v) (some_in a v)) ?_
  simp only [List.set_cons_succ, List.set_cons_zero]
  refine lin_val (i := 3) rfl rfl (by rfl) (by intro x hx; go_simp; (first | done | exact rfl)) ?_
  simp only [List.set_cons_succ, List.set_cons_zero]
  refine lin_val (i := 4) rfl rfl (by rfl) (by intro x hx; go_simp; (first | done | exact rfl)) ?_
  simp only [List.set_cons_succ, List.set_cons_zero]
  refine lin_val (i := 5) rfl rfl (by rfl) (by intro x hx; have f := (HBb.out.up hx).cells; obtain ⟨f0, f1⟩ := f; go_simp; (first | done | exact rfl)) ?_
  simp only [List.set_cons_succ, List.set_cons_zero]
  refine lin_val (i := 6) rfl rfl (by rfl) (by intro x hx; go_simp; (first | done | exact rfl)) ?_
  simp only [List.set_cons_succ, List.set_cons_zero]
  refine lin_call (i := 7) (f := 26) (args := #[(b).val, .int .u64 (tn (someR b u))]) (ups_below (Nat.le_refl _)) rfl rfl (by rfl) (fun x hx => by kernel_rfl) (by intro x hx; exact in_is (a := b) (v := someR b u) (some_in b u)) ?_
  simp only [List.set_cons_succ, List.set_cons_zero]
  refine lin_val (i := 8) rfl rfl (by rfl) (by intro x hx; go_simp; (first | done | exact rfl)) ?_
  simp only [List.set_cons_succ, List.set_cons_zero]
  refine lin_val (i := 9) rfl rfl (by rfl) (by intro x hx; go_simp; (first | done | exact rfl)) ?_
  simp only [List.set_cons_succ, List.set_cons_zero]
  refine lin_done ?_
  intro W3 hx
  replace HA := hid (HA.out.up hx)
  replace HBb := hid (HBb.out.up hx)
  replace HT := hid (HT.out.up hx)
  replace HB := hid (HB.out.trans (hx.mono HB.out.size))
  clear hx
  go_upto_region 5 with fail
  -- region 5
  refine lin_begin (Below W3.heap.size W3) rfl (Below.refl _ _) ?_
  refine lin_val (i := 0) rfl rfl (by rfl) (by intro x hx; have f := (HA.out.up hx).cells; obtain ⟨f0, f1⟩ := f; go_simp; (first | done | exact rfl)) ?_
  simp only [List.set_cons_succ, List.set_cons_zero]
  refine lin_val (i := 1) rfl rfl (by rfl) (by intro x hx; have f := (HBb.out.up hx).cells; obtain ⟨f0, f1⟩ := f; go_simp; (first | done | exact rfl)) ?_
  simp only [List.set_cons_succ, List.set_cons_zero]
  refine lin_call (i := 2) (f := 12) (args := #[a.val, b.val]) (ups_below (Nat.le_refl _)) rfl rfl (by rfl) (fun x hx => by kernel_rfl) (by intro x hx; exact add_any a b _) ?_
  simp only [List.set_cons_succ, List.set_cons_zero]
  refine lin_val (i := 3) rfl rfl (by rfl) (by intro x hx; go_simp; (first | done | exact rfl)) ?_
  simp only [List.set_cons_succ, List.set_cons_zero]
  refine lin_val (i := 4) rfl rfl (by rfl) (by intro x hx; go_simp; (first | done | exact rfl)) ?_
  simp only [List.set_cons_succ, List.set_cons_zero]
  refine lin_val (i := 5) rfl rfl (by rfl) (by intro x hx; go_simp; (first | rw [xorT] | rw [orT] | rw [andT] | rw [andNotT] | rw [addT] | rw [subT] | rw [mulT] | skip); (first | done | exact rfl)) ?_
  simp only [List.set_cons_succ, List.set_cons_zero]
  refine lin_call (i := 6) (f := 26) (args := #[(addR a b).val, .int .u64 (tn (someR a v + someR b u))]) (ups_below (Nat.le_refl _)) rfl rfl (by rfl) (fun x hx => by kernel_rfl) (by intro x hx; exact in_is (a := addR a b) (v := someR a v + someR b u) (add_in a b v u)) ?_
  simp only [List.set_cons_succ, List.set_cons_zero]
  refine lin_val (i := 7) rfl rfl (by rfl) (by intro x hx; go_simp; (first | done | exact rfl)) ?_
  simp only [List.set_cons_succ, List.set_cons_zero]
  refine lin_val (i := 8) rfl rfl (by rfl) (by intro x hx; have f := (HA.out.up hx).cells; obtain ⟨f0, f1⟩ := f; go_simp; (first | done | exact rfl)) ?_
  simp only [List.set_cons_succ, List.set_cons_zero]
  refine lin_val (i := 9) rfl rfl (by rfl) (by intro x hx; have f := (HBb.out.up hx).cells; obtain ⟨f0, f1⟩ := f; go_simp; (first | done | exact rfl)) ?_
  simp only [List.set_cons_succ, List.set_cons_zero]
  refine lin_call (i := 10) (f := 14) (args := #[a.val, b.val]) (ups_below (Nat.le_refl _)) rfl rfl (by rfl) (fun x hx => by kernel_rfl) (by intro x hx; exact sub_any a b _) ?_
  simp only [List.set_cons_succ, List.set_cons_zero]
  refine lin_val (i := 11) rfl rfl (by rfl) (by intro x hx; go_simp; (first | done | exact rfl)) ?_
  simp only [List.set_cons_succ, List.set_cons_zero]
  refine lin_val (i := 12) rfl rfl (by rfl) (by intro x hx; go_simp; (first | done | exact rfl)) ?_
  simp only [List.set_cons_succ, List.set_cons_zero]
  refine lin_val (i := 13) rfl rfl (by rfl) (by intro x hx; go_simp; (first | rw [xorT] | rw [orT] | rw [andT] | rw [andNotT] | rw [addT] | rw [subT] | rw [mulT] | skip); (first | done | exact rfl)) ?_
  simp only [List.set_cons_succ, List.set_cons_zero]
  refine lin_call (i := 14) (f := 26) (args := #[(subR a b).val, .int .u64 (tn (someR a v - someR b u))]) (ups_below (Nat.le_refl _)) rfl rfl (by rfl) (fun x hx => by kernel_rfl) (by intro x hx; exact in_is (a := subR a b) (v := someR a v - someR b u) (sub_in a b v u)) ?_
  simp only [List.set_cons_succ, List.set_cons_zero]
  refine lin_val (i := 15) rfl rfl (by rfl) (by intro x hx; go_simp; (first | done | exact rfl)) ?_
  simp only [List.set_cons_succ, List.set_cons_zero]
  refine lin_val (i := 16) rfl rfl (by rfl) (by intro x hx; go_simp; (first | done | exact rfl)) ?_
  simp only [List.set_cons_succ, List.set_cons_zero]
  refine lin_val (i := 17) rfl rfl (by rfl) (by intro x hx; have f := (HA.out.up hx).cells; obtain ⟨f0, f1⟩ := f; go_simp; (first | done | exact rfl)) ?_
  simp only [List.set_cons_succ, List.set_cons_zero]
  refine lin_val (i := 18) rfl rfl (by rfl) (by intro x hx; have f := (HBb.out.up hx).cells; obtain ⟨f0, f1⟩ := f; go_simp; (first | done | exact rfl)) ?_
  simp only [List.set_cons_succ, List.set_cons_zero]
  refine lin_call (i := 19) (f := 16) (args := #[a.val, b.val]) (ups_below (Nat.le_refl _)) rfl rfl (by rfl) (fun x hx => by kernel_rfl) (by intro x hx; exact mul_any a b k l _ (HT.out.up hx) HK.out HL.out) ?_
  simp only [List.set_cons_succ, List.set_cons_zero]
  refine lin_val (i := 20) rfl rfl (by rfl) (by intro x hx; go_simp; (first | done | exact rfl)) ?_
  simp only [List.set_cons_succ, List.set_cons_zero]
  refine lin_val (i := 21) rfl rfl (by rfl) (by intro x hx; go_simp; (first | done | exact rfl)) ?_
  simp only [List.set_cons_succ, List.set_cons_zero]
  refine lin_val (i := 22) rfl rfl (by rfl) (by intro x hx; go_simp; (first | rw [xorT] | rw [orT] | rw [andT] | rw [andNotT] | rw [addT] | rw [subT] | rw [mulT] | skip); (first | done | exact rfl)) ?_
  simp only [List.set_cons_succ, List.set_cons_zero]
  refine lin_call (i := 23) (f := 26) (args := #[(mulR a b k l).val, .int .u64 (tn (someR a v * someR b u))]) (ups_below (Nat.le_refl _)) rfl rfl (by rfl) (fun x hx => by kernel_rfl) (by intro x hx; exact in_is (a := mulR a b k l) (v := someR a v * someR b u) (mul_in a b v u k l HK.out HL.out)) ?_
  simp only [List.set_cons_succ, List.set_cons_zero]
  refine lin_val (i := 24) rfl rfl (by rfl) (by intro x hx; go_simp; (first | done | exact rfl)) ?_
  simp only [List.set_cons_succ, List.set_cons_zero]
  refine lin_val (i := 25) rfl rfl (by rfl) (by intro x hx; go_simp; (first | done | exact rfl)) ?_
  simp only [List.set_cons_succ, List.set_cons_zero]
  refine lin_done ?_
  intro W4 hx
  replace HA := hid (HA.out.up hx)
  replace HBb := hid (HBb.out.up hx)
  replace HT := hid (HT.out.up hx)
  replace HB := hid (HB.out.trans (hx.mono HB.out.size))
  clear hx
  go_upto_region 6 with fail
  -- region 6
  refine lin_begin (Below W4.heap.size W4) rfl (Below.refl _ _) ?_
  refine lin_val (i := 0) rfl rfl (by rfl) (by intro x hx; have f := (HA.out.up hx).cells; obtain ⟨f0, f1⟩ := f; go_simp; (first | done | exact rfl)) ?_
  simp only [List.set_cons_succ, List.set_cons_zero]
  refine lin_val (i := 1) rfl rfl (by rfl) (by intro x hx; have f := (HBb.out.up hx).cells; obtain ⟨f0, f1⟩ := f; go_simp; (first | done | exact rfl)) ?_
  simp only [List.set_cons_succ, List.set_cons_zero]
  refine lin_call (i := 2) (f := 6) (args := #[a.val, b.val]) (ups_below (Nat.le_refl _)) rfl rfl (by rfl) (fun x hx => by kernel_rfl) (by intro x hx; exact and_any a b _) ?_
  simp only [List.set_cons_succ, List.set_cons_zero]
  refine lin_val (i := 3) rfl rfl (by rfl) (by intro x hx; go_simp; (first | done | exact rfl)) ?_
  simp only [List.set_cons_succ, List.set_cons_zero]
  refine lin_val (i := 4) rfl rfl (by rfl) (by intro x hx; go_simp; (first | done | exact rfl)) ?_
  simp only [List.set_cons_succ, List.set_cons_zero]
  refine lin_val (i := 5) rfl rfl (by rfl) (by intro x hx; go_simp; (first | rw [xorT] | rw [orT] | rw [andT] | rw [andNotT] | rw [addT] | rw [subT] | rw [mulT] | skip); (first | done | exact rfl)) ?_
  simp only [List.set_cons_succ, List.set_cons_zero]
  refine lin_call (i := 6) (f := 26) (args := #[(andR a b).val, .int .u64 (tn (someR a v &&& someR b u))]) (ups_below (Nat.le_refl _)) rfl rfl (by rfl) (fun x hx => by kernel_rfl) (by intro x hx; exact in_is (a := andR a b) (v := someR a v &&& someR b u) (and_in a b v u)) ?_
  simp only [List.set_cons_succ, List.set_cons_zero]
  refine lin_val (i := 7) rfl rfl (by rfl) (by intro x hx; go_simp; (first | done | exact rfl)) ?_
  simp only [List.set_cons_succ, List.set_cons_zero]
  refine lin_val (i := 8) rfl rfl (by rfl) (by intro x hx; have f := (HA.out.up hx).cells; obtain ⟨f0, f1⟩ := f; go_simp; (first | done | exact rfl)) ?_
  simp only [List.set_cons_succ, List.set_cons_zero]
  refine lin_val (i := 9) rfl rfl (by rfl) (by intro x hx; have f := (HBb.out.up hx).cells; obtain ⟨f0, f1⟩ := f; go_simp; (first | done | exact rfl)) ?_
  simp only [List.set_cons_succ, List.set_cons_zero]
  refine lin_call (i := 10) (f := 8) (args := #[a.val, b.val]) (ups_below (Nat.le_refl _)) rfl rfl (by rfl) (fun x hx => by kernel_rfl) (by intro x hx; exact or_any a b _) ?_
  simp only [List.set_cons_succ, List.set_cons_zero]
  refine lin_val (i := 11) rfl rfl (by rfl) (by intro x hx; go_simp; (first | done | exact rfl)) ?_
  simp only [List.set_cons_succ, List.set_cons_zero]
  refine lin_val (i := 12) rfl rfl (by rfl) (by intro x hx; go_simp; (first | done | exact rfl)) ?_
  simp only [List.set_cons_succ, List.set_cons_zero]
  refine lin_val (i := 13) rfl rfl (by rfl) (by intro x hx; go_simp; (first | rw [xorT] | rw [orT] | rw [andT] | rw [andNotT] | rw [addT] | rw [subT] | rw [mulT] | skip); (first | done | exact rfl)) ?_
  simp only [List.set_cons_succ, List.set_cons_zero]
  refine lin_call (i := 14) (f := 26) (args := #[(orR a b).val, .int .u64 (tn (someR a v ||| someR b u))]) (ups_below (Nat.le_refl _)) rfl rfl (by rfl) (fun x hx => by kernel_rfl) (by intro x hx; exact in_is (a := orR a b) (v := someR a v ||| someR b u) (or_in a b v u)) ?_
  simp only [List.set_cons_succ, List.set_cons_zero]
  refine lin_val (i := 15) rfl rfl (by rfl) (by intro x hx; go_simp; (first | done | exact rfl)) ?_
  simp only [List.set_cons_succ, List.set_cons_zero]
  refine lin_val (i := 16) rfl rfl (by rfl) (by intro x hx; go_simp; (first | done | exact rfl)) ?_
  simp only [List.set_cons_succ, List.set_cons_zero]
  refine lin_val (i := 17) rfl rfl (by rfl) (by intro x hx; have f := (HA.out.up hx).cells; obtain ⟨f0, f1⟩ := f; go_simp; (first | done | exact rfl)) ?_
  simp only [List.set_cons_succ, List.set_cons_zero]
  refine lin_val (i := 18) rfl rfl (by rfl) (by intro x hx; have f := (HBb.out.up hx).cells; obtain ⟨f0, f1⟩ := f; go_simp; (first | done | exact rfl)) ?_
  simp only [List.set_cons_succ, List.set_cons_zero]
  refine lin_call (i := 19) (f := 10) (args := #[a.val, b.val]) (ups_below (Nat.le_refl _)) rfl rfl (by rfl) (fun x hx => by kernel_rfl) (by intro x hx; exact xor_any a b _) ?_
  simp only [List.set_cons_succ, List.set_cons_zero]
  refine lin_val (i := 20) rfl rfl (by rfl) (by intro x hx; go_simp; (first | done | exact rfl)) ?_
  simp only [List.set_cons_succ, List.set_cons_zero]
  refine lin_val (i := 21) rfl rfl (by rfl) (by intro x hx; go_simp; (first | done | exact rfl)) ?_
  simp only [List.set_cons_succ, List.set_cons_zero]
  refine lin_val (i := 22) rfl rfl (by rfl) (by intro x hx; go_simp; (first | rw [xorT] | rw [orT] | rw [andT] | rw [andNotT] | rw [addT] | rw [subT] | rw [mulT] | skip); (first | done | exact rfl)) ?_
  simp only [List.set_cons_succ, List.set_cons_zero]
  refine lin_call (i := 23) (f := 26) (args := #[(xorR a b).val, .int .u64 (tn (someR a v ^^^ someR b u))]) (ups_below (Nat.le_refl _)) rfl rfl (by rfl) (fun x hx => by kernel_rfl) (by intro x hx; exact in_is (a := xorR a b) (v := someR a v ^^^ someR b u) (xor_in a b v u)) ?_
  simp only [List.set_cons_succ, List.set_cons_zero]
  refine lin_val (i := 24) rfl rfl (by rfl) (by intro x hx; go_simp; (first | done | exact rfl)) ?_
  simp only [List.set_cons_succ, List.set_cons_zero]
  refine lin_val (i := 25) rfl rfl (by rfl) (by intro x hx; go_simp; (first | done | exact rfl)) ?_
  simp only [List.set_cons_succ, List.set_cons_zero]
  refine lin_done ?_
  intro W5 hx
  replace HA := hid (HA.out.up hx)
  replace HBb := hid (HBb.out.up hx)
  replace HT := hid (HT.out.up hx)
  replace HB := hid (HB.out.trans (hx.mono HB.out.size))
  clear hx
  go_upto_region 7 with fail
  -- region 7
  refine lin_begin (Below W5.heap.size W5) rfl (Below.refl _ _) ?_
  refine lin_val (i := 0) rfl rfl (by rfl) (by intro x hx; go_simp; (first | done | exact rfl)) ?_
  simp only [List.set_cons_succ, List.set_cons_zero]
  refine lin_val (i := 1) (v := .int .u64 (tn n)) rfl rfl (by rfl) (by intro x hx; go_simp; (first | rw [back64 n] | skip); (first | done | exact rfl)) ?_
  simp only [List.set_cons_succ, List.set_cons_zero]
  refine lin_val (i := 2) rfl rfl (by rfl) (by intro x hx; go_simp; (first | done | exact rfl)) ?_
  simp only [List.set_cons_succ, List.set_cons_zero]
  refine lin_done ?_
  intro W6 hx
  replace HA := hid (HA.out.up hx)
  replace HBb := hid (HBb.out.up hx)
  replace HT := hid (HT.out.up hx)
  replace HB := hid (HB.out.trans (hx.mono HB.out.size))
  clear hx
  go_upto_region 8 with fail
  -- region 8
  refine lin_begin (Below W6.heap.size W6) rfl (Below.refl _ _) ?_
  refine lin_val (i := 0) rfl rfl (by rfl) (by intro x hx; have f := (HA.out.up hx).cells; obtain ⟨f0, f1⟩ := f; go_simp; (first | done | exact rfl)) ?_
  simp only [List.set_cons_succ, List.set_cons_zero]
  refine lin_val (i := 1) rfl rfl (by rfl) (by intro x hx; go_simp; (first | done | exact rfl)) ?_
  simp only [List.set_cons_succ, List.set_cons_zero]
  refine lin_call (i := 2) (f := 18) (args := #[a.val, .int .i64 n.toInt]) (ups_below (Nat.le_refl _)) rfl rfl (by rfl) (fun x hx => by kernel_rfl) (by intro x hx; exact lsh_any a n _) ?_
  simp only [List.set_cons_succ, List.set_cons_zero]
  refine lin_val (i := 3) rfl rfl (by rfl) (by intro x hx; go_simp; (first | done | exact rfl)) ?_
  simp only [List.set_cons_succ, List.set_cons_zero]
  refine lin_val (i := 4) rfl rfl (by rfl) (by intro x hx; go_simp; (first | done | exact rfl)) ?_
  simp only [List.set_cons_succ, List.set_cons_zero]
  refine lin_call (i := 5) (f := 34) (args := #[.int .i64 96, .int .u64 (tn (someR a v)), .int .u64 (tn n)]) (ups_below (Nat.le_refl _)) rfl rfl (by rfl) (fun x hx => by kernel_rfl) (by intro x hx; exact lalu_any 96 (someR a v) n _) ?_
  simp only [List.set_cons_succ, List.set_cons_zero]
  refine lin_call (i := 6) (f := 26) (args := #[(shiftR 96 a n).val, .int .u64 (tn (aluV 64 96 (someR a v) n))]) (ups_below (Nat.le_refl _)) rfl rfl (by rfl) (fun x hx => by kernel_rfl) (by intro x hx; exact in_is (a := shiftR 96 a n) (v := aluV 64 96 (someR a v) n) (lsh_in a v n)) ?_
  simp only [List.set_cons_succ, List.set_cons_zero]
  refine lin_val (i := 7) rfl rfl (by rfl) (by intro x hx; go_simp; (first | done | exact rfl)) ?_
  simp only [List.set_cons_succ, List.set_cons_zero]
  refine lin_val (i := 8) rfl rfl (by rfl) (by intro x hx; have f := (HA.out.up hx).cells; obtain ⟨f0, f1⟩ := f; go_simp; (first | done | exact rfl)) ?_
  simp only [List.set_cons_succ, List.set_cons_zero]
  refine lin_val (i := 9) rfl rfl (by rfl) (by intro x hx; go_simp; (first | done | exact rfl)) ?_
  simp only [List.set_cons_succ, List.set_cons_zero]
  refine lin_call (i := 10) (f := 20) (args := #[a.val, .int .i64 n.toInt]) (ups_below (Nat.le_refl _)) rfl rfl (by rfl) (fun x hx => by kernel_rfl) (by intro x hx; exact rsh_any a n _) ?_
  simp only [List.set_cons_succ, List.set_cons_zero]
  refine lin_val (i := 11) rfl rfl (by rfl) (by intro x hx; go_simp; (first | done | exact rfl)) ?_
  simp only [List.set_cons_succ, List.set_cons_zero]
  refine lin_val (i := 12) rfl rfl (by rfl) (by intro x hx; go_simp; (first | done | exact rfl)) ?_
  simp only [List.set_cons_succ, List.set_cons_zero]
  refine lin_call (i := 13) (f := 34) (args := #[.int .i64 112, .int .u64 (tn (someR a v)), .int .u64 (tn n)]) (ups_below (Nat.le_refl _)) rfl rfl (by rfl) (fun x hx => by kernel_rfl) (by intro x hx; exact lalu_any 112 (someR a v) n _) ?_
  simp only [List.set_cons_succ, List.set_cons_zero]
  refine lin_call (i := 14) (f := 26) (args := #[(shiftR 112 a n).val, .int .u64 (tn (aluV 64 112 (someR a v) n))]) (ups_below (Nat.le_refl _)) rfl rfl (by rfl) (fun x hx => by kernel_rfl) (by intro x hx; exact in_is (a := shiftR 112 a n) (v := aluV 64 112 (someR a v) n) (rsh_in a v n)) ?_
  simp only [List.set_cons_succ, List.set_cons_zero]
  refine lin_val (i := 15) rfl rfl (by rfl) (by intro x hx; go_simp; (first | done | exact rfl)) ?_
  simp only [List.set_cons_succ, List.set_cons_zero]
  refine lin_val (i := 16) rfl rfl (by rfl) (by intro x hx; go_simp; (first | done | exact rfl)) ?_
  simp only [List.set_cons_succ, List.set_cons_zero]
  refine lin_val (i := 17) rfl rfl (by rfl) (by intro x hx; have f := (HA.out.up hx).cells; obtain ⟨f0, f1⟩ := f; go_simp; (first | done | exact rfl)) ?_
  simp only [List.set_cons_succ, List.set_cons_zero]
  refine lin_val (i := 18) rfl rfl (by rfl) (by intro x hx; go_simp; (first | done | exact rfl)) ?_
  simp only [List.set_cons_succ, List.set_cons_zero]
  refine lin_call (i := 19) (f := 21) (args := #[a.val, .int .i64 n.toInt]) (ups_below (Nat.le_refl _)) rfl rfl (by rfl) (fun x hx => by kernel_rfl) (by intro x hx; exact arsh_any a n _) ?_
  simp only [List.set_cons_succ, List.set_cons_zero]
  refine lin_val (i := 20) rfl rfl (by rfl) (by intro x hx; go_simp; (first | done | exact rfl)) ?_
  simp only [List.set_cons_succ, List.set_cons_zero]
  refine lin_val (i := 21) rfl rfl (by rfl) (by intro x hx; go_simp; (first | done | exact rfl)) ?_
  simp only [List.set_cons_succ, List.set_cons_zero]
  refine lin_call (i := 22) (f := 34) (args := #[.int .i64 192, .int .u64 (tn (someR a v)), .int .u64 (tn n)]) (ups_below (Nat.le_refl _)) rfl rfl (by rfl) (fun x hx => by kernel_rfl) (by intro x hx; exact lalu_any 192 (someR a v) n _) ?_
  simp only [List.set_cons_succ, List.set_cons_zero]
  refine lin_call (i := 23) (f := 26) (args := #[(shiftR 192 a n).val, .int .u64 (tn (aluV 64 192 (someR a v) n))]) (ups_below (Nat.le_refl _)) rfl rfl (by rfl) (fun x hx => by kernel_rfl) (by intro x hx; exact in_is (a := shiftR 192 a n) (v := aluV 64 192 (someR a v) n) (arsh_in a v n)) ?_
  simp only [List.set_cons_succ, List.set_cons_zero]
  refine lin_val (i := 24) rfl rfl (by rfl) (by intro x hx; go_simp; (first | done | exact rfl)) ?_
  simp only [List.set_cons_succ, List.set_cons_zero]
  refine lin_val (i := 25) rfl rfl (by rfl) (by intro x hx; go_simp; (first | done | exact rfl)) ?_
  simp only [List.set_cons_succ, List.set_cons_zero]
  refine lin_val (i := 26) rfl rfl (by rfl) (by intro x hx; have f := (HA.out.up hx).cells; obtain ⟨f0, f1⟩ := f; go_simp; (first | done | exact rfl)) ?_
  simp only [List.set_cons_succ, List.set_cons_zero]
  refine lin_call (i := 27) (f := 22) (args := #[a.val]) (ups_below (Nat.le_refl _)) rfl rfl (by rfl) (fun x hx => by kernel_rfl) (by intro x hx; exact cut_any a _) ?_
  simp only [List.set_cons_succ, List.set_cons_zero]
  refine lin_val (i := 28) rfl rfl (by rfl) (by intro x hx; go_simp; (first | done | exact rfl)) ?_
  simp only [List.set_cons_succ, List.set_cons_zero]
  refine lin_val (i := 29) (v := .int .u64 (tn ((someR a v) &&& 4294967295#64))) rfl rfl (by rfl) (by intro x hx; go_simp; (first | rw [remT] | rw [Int.tmod_eq_emod_of_nonneg (tn_lo _), remT]); (first | done | exact rfl)) ?_
  simp only [List.set_cons_succ, List.set_cons_zero]
  refine lin_call (i := 30) (f := 26) (args := #[(cutR a).val, .int .u64 (tn ((someR a v) &&& 4294967295#64))]) (ups_below (Nat.le_refl _)) rfl rfl (by rfl) (fun x hx => by kernel_rfl) (by intro x hx; exact in_is (a := cutR a) (v := (someR a v) &&& 4294967295#64) (cut_in a v)) ?_
  simp only [List.set_cons_succ, List.set_cons_zero]
  refine lin_val (i := 31) rfl rfl (by rfl) (by intro x hx; go_simp; (first | done | exact rfl)) ?_
  simp only [List.set_cons_succ, List.set_cons_zero]
  refine lin_val (i := 32) rfl rfl (by rfl) (by intro x hx; go_simp; (first | done | exact rfl)) ?_
  simp only [List.set_cons_succ, List.set_cons_zero]
  refine lin_done ?_
  intro W7 hx
  replace HA := hid (HA.out.up hx)
  replace HBb := hid (HBb.out.up hx)
  replace HT := hid (HT.out.up hx)
  replace HB := hid (HB.out.trans (hx.mono HB.out.size))
  clear hx
  go_upto_region 9 with fail
  -- region 9
  refine lin_begin (Below W7.heap.size W7) rfl (Below.refl _ _) ?_
  refine lin_val (i := 0) rfl rfl (by rfl) (by intro x hx; go_simp; (first | done | exact rfl)) ?_
  simp only [List.set_cons_succ, List.set_cons_zero]
  refine lin_val (i := 1) rfl rfl (by rfl) (by intro x hx; go_simp; (first | done | exact rfl)) ?_
  simp only [List.set_cons_succ, List.set_cons_zero]
  refine lin_val (i := 2) rfl rfl (by rfl) (by intro x hx; go_simp; (first | done | exact rfl)) ?_
  simp only [List.set_cons_succ, List.set_cons_zero]
  refine lin_val (i := 3) rfl rfl (by rfl) (by intro x hx; go_simp; (first | done | exact rfl)) ?_
  simp only [List.set_cons_succ, List.set_cons_zero]
  refine lin_val (i := 4) rfl rfl (by rfl) (by intro x hx; go_simp; (first | done | exact rfl)) ?_
  simp only [List.set_cons_succ, List.set_cons_zero]
  refine lin_val (i := 5) rfl rfl (by rfl) (by intro x hx; go_simp; (first | done | exact rfl)) ?_
  simp only [List.set_cons_succ, List.set_cons_zero]
  refine lin_val (i := 6) rfl rfl (by rfl) (by intro x hx; go_simp; (first | done | exact rfl)) ?_
  simp only [List.set_cons_succ, List.set_cons_zero]
  refine lin_val (i := 7) rfl rfl (by rfl) (by intro x hx; go_simp; (first | done | exact rfl)) ?_
  simp only [List.set_cons_succ, List.set_cons_zero]
  refine lin_call (i := 8) (f := 32) (args := #[]) (ups_below (Nat.le_refl _)) rfl rfl (by rfl) (fun x hx => by kernel_rfl) (by intro x hx; exact works_any _) ?_
  simp only [List.set_cons_succ, List.set_cons_zero]
  refine lin_val (i := 9) rfl rfl (by rfl) (by intro x hx; go_simp; (first | done | exact rfl)) ?_
  simp only [List.set_cons_succ, List.set_cons_zero]
  refine lin_val (i := 10) rfl rfl (by rfl) (by intro x hx; go_simp; (first | done | exact rfl)) ?_
  simp only [List.set_cons_succ, List.set_cons_zero]
  refine lin_done ?_
  intro W8 hx
  replace HA := hid (HA.out.up hx)
  replace HBb := hid (HBb.out.up hx)
  replace HT := hid (HT.out.up hx)
  replace HB := hid (HB.out.trans (hx.mono HB.out.size))
  clear hx
  go_wp2
  go_ret
  exact ⟨rfl, HB.out⟩
end Go.Proofs.YtlpddekfbkafaaaDoor.Tn
