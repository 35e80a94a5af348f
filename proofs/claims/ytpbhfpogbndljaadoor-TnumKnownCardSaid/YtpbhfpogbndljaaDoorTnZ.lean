/-
  The number of known 0 bits at the low end; the contract of math/bits' TrailingZeros64, off its table.
-/
import Derived.Test.YtpbhfpogbndljaaDoorTnD
import Derived.Deep.DeepCutAuto
namespace Go.Proofs.YtpbhfpogbndljaaDoor.Tn
open Go.RowKit Go.Proofs.YtpbhfpogbndljaaDoor.Num Go.Proofs.YtpbhfpogbndljaaDoor.Up
def deB : List Int := [0, 1, 56, 2, 57, 49, 28, 3, 61, 58, 42, 50, 38, 29, 17, 4, 62, 47, 59, 36, 45, 43, 51, 22, 53, 39, 33, 30, 24, 18, 12, 5, 63, 55, 48, 27, 60, 41, 37, 16, 46, 35, 44, 21, 52, 32, 23, 11, 54, 26, 40, 15, 34, 20, 31, 10, 25, 14, 19, 9, 13, 8, 7, 6]
/-- The table lies where the program has it. -/
def Tab (w : World) : Prop := ∀ k, k < 64 → w.cell? ⟨0, k, none⟩ = some (.int .u8 (deB.getD k 0))
theorem Tab.pos {w : World} (h : Tab w) : 0 < w.heap.size := World.block_lt_of_cell? w _ (h 0 (by decide))
theorem Tab.up {w x : World} (h : Tab w) (hb : Below w.heap.size w x) : Tab x := fun k hk => (hb.cell (p := ⟨0, k, none⟩) h.pos).trans (h k hk)
def dbI (k : Nat) : Int := tn (BitVec.twoPow 64 k * 285870213051353865#64) / 288230376151711744
theorem db_all : ∀ k : Fin 64, 0 ≤ dbI k.val ∧ dbI k.val < 64 ∧ deB.getD (dbI k.val).toNat 0 = (k.val : Int) := by decide +kernel
theorem low_bit (x : BitVec 64) (k : Nat) (hk : k < 64) (h1 : x.getLsbD k = true) (h0 : ∀ j, j < k → x.getLsbD j = false) : x &&& -x = BitVec.twoPow 64 k := by
  apply BitVec.eq_of_getLsbD_eq
  intro i hi
  rw [BitVec.getLsbD_and, BitVec.getLsbD_neg, BitVec.getLsbD_twoPow]
  by_cases hik : i = k
  · subst hik
    have : ¬ ∃ j, j < i ∧ x.getLsbD j = true := fun ⟨j, hj, hx⟩ => by rw [h0 j hj] at hx; cases hx
    simp [h1, hi, this]
  · by_cases hlt : i < k
    · simp [h0 i hlt, Ne.symm hik]
    · have : ∃ j, j < i ∧ x.getLsbD j = true := ⟨k, by omega, h1⟩
      simp [hi, this, Ne.symm hik]
theorem negT (x : BitVec 64) : IntKind.u64.wrap (-(tn x)) = tn (-x) := by rw [neg64, b64_tn]
theorem mulC (x : BitVec 64) : IntKind.u64.wrap (tn x * 285870213051353865) = tn (x * 285870213051353865#64) := by rw [mul64, b64_tn]; rfl
set_option maxRecDepth 100000 in
theorem tz_zero (w : World) : Calls Tryd.prog 50 #[.int .u64 (tn 0#64)] w fun e w' => e = .returned (.int .i64 64) ∧ w = w' := by
  have e : tn 0#64 = 0 := rfl
  rw [e]
  go_enter Tryd.func50, Tryd.ntmps50
  go_wp2
  go_ret
  exact ⟨rfl, rfl⟩
set_option maxRecDepth 100000 in
theorem tz_low (x : BitVec 64) (k : Nat) (w : World) (hT : Tab w) (hk : k < 64) (h1 : x.getLsbD k = true) (h0 : ∀ j, j < k → x.getLsbD j = false) : Calls Tryd.prog 50 #[.int .u64 (tn x)] w fun e w' => e = .returned (.int .i64 (k : Int)) ∧ w = w' := by
  have hx : (tn x == 0) = false := by
    rw [eq0T]
    apply Bool.eq_false_iff.2
    intro h
    rw [beq_iff_eq] at h
    rw [h] at h1
    simp at h1
  have HL := hid (low_bit x k hk h1 h0)
  obtain ⟨d0, d1, d2⟩ := db_all ⟨k, hk⟩
  simp only at d0 d1 d2
  have HC := hT (dbI k).toNat (by omega)
  rw [d2] at HC
  have HC := hid HC
  have HW := hid (show IntKind.i64.wrap (k : Int) = k from IntWalk.i64_in _ (by omega))
  clear d2 h1 h0 hT
  go_enter Tryd.func50, Tryd.ntmps50
  go_upto_region 3 with fail
  refine lin_begin (fun y => y = w) rfl (rfl) ?_
  refine lin_val (i := 0) rfl rfl (by rfl) (by intro x hx; go_simp; (first | done | exact rfl)) ?_
  simp only [List.set_cons_succ, List.set_cons_zero]
  refine lin_val (i := 1) rfl rfl (by rfl) (by intro x hx; go_simp; (first | done | exact rfl)) ?_
  simp only [List.set_cons_succ, List.set_cons_zero]
  refine lin_val (i := 2) rfl rfl (by rfl) (by intro x hx; go_simp; (first | rw [negT] | rw [HW.out] | skip); (first | done | exact rfl)) ?_
  simp only [List.set_cons_succ, List.set_cons_zero]
  refine lin_val (i := 3) (v := .int .u64 (tn (BitVec.twoPow 64 k))) rfl rfl (by rfl) (by intro x hx; go_simp; rw [andT, HL.out]; (first | done | exact rfl)) ?_
  simp only [List.set_cons_succ, List.set_cons_zero]
  refine lin_val (i := 4) (v := .int .u64 (tn (BitVec.twoPow 64 k * 285870213051353865#64))) rfl rfl (by rfl) (by intro x hx; go_simp; rw [mulC]; (first | done | exact rfl)) ?_
  simp only [List.set_cons_succ, List.set_cons_zero]
  refine lin_val (i := 5) (v := .int .u64 (dbI k)) rfl rfl (by rfl) (by intro x hx; go_simp; (first | done | exact rfl)) ?_
  simp only [List.set_cons_succ, List.set_cons_zero]
  refine lin_val (i := 6) (v := .pointer (some ⟨0, (dbI k).toNat, none⟩)) rfl rfl (by rfl) (by intro x hx; go_simp; (first | done | exact rfl)) ?_
  simp only [List.set_cons_succ, List.set_cons_zero]
  refine lin_val (i := 7) rfl rfl (by rfl) (by intro x hx; have f := HC.out; subst hx; go_simp; (first | done | exact rfl)) ?_
  simp only [List.set_cons_succ, List.set_cons_zero]
  refine lin_val (i := 8) rfl rfl (by rfl) (by intro x hx; go_simp; (first | rw [negT] | rw [HW.out] | skip); (first | done | exact rfl)) ?_
  simp only [List.set_cons_succ, List.set_cons_zero]
  refine lin_val (i := 9) rfl rfl (by rfl) (by intro x hx; go_simp; (first | done | exact rfl)) ?_
  simp only [List.set_cons_succ, List.set_cons_zero]
  refine lin_done ?_
  intro x hx
  subst hx
  go_wp2
  go_ret
  exact ⟨rfl, rfl⟩
/-- k is the number of 0 bits at the low end. -/
def TZ (x : BitVec 64) (k : Nat) : Prop := (k < 64 ∧ x.getLsbD k = true ∧ ∀ j, j < k → x.getLsbD j = false) ∨ (k = 64 ∧ x = 0#64)
theorem least_bit (x : BitVec 64) (n : Nat) : (∃ k, k < n ∧ x.getLsbD k = true ∧ ∀ j, j < k → x.getLsbD j = false) ∨ ∀ j, j < n → x.getLsbD j = false := by
  induction n with
  | zero => exact .inr fun j hj => absurd hj (by omega)
  | succ n ih =>
    rcases ih with ⟨k, hk, h⟩ | h
    · exact .inl ⟨k, by omega, h⟩
    · cases hb : x.getLsbD n with
      | true => exact .inl ⟨n, by omega, hb, h⟩
      | false =>
        refine .inr fun j hj => ?_
        by_cases e : j = n
        · rw [e]; exact hb
        · exact h j (by omega)
theorem exists_tz (x : BitVec 64) : ∃ k, TZ x k := by
  rcases least_bit x 64 with ⟨k, h⟩ | h
  · exact ⟨k, .inl h⟩
  · refine ⟨64, .inr ⟨rfl, ?_⟩⟩
    apply BitVec.eq_of_getLsbD_eq
    intro i hi
    rw [h i hi]; simp
theorem TZ.le {x : BitVec 64} {k : Nat} (h : TZ x k) : k ≤ 64 := by rcases h with h | h <;> omega
theorem tz_any (x : BitVec 64) (k : Nat) (w : World) (hT : Tab w) (h : TZ x k) : Calls Tryd.prog 50 #[.int .u64 (tn x)] w fun e w' => e = .returned (.int .i64 (k : Int)) ∧ Below w.heap.size w w' := by
  rcases h with ⟨hk, h1, h0⟩ | ⟨rfl, rfl⟩
  · exact (tz_low x k w hT hk h1 h0).mono fun e w' h => ⟨h.1, h.2 ▸ Below.refl _ _⟩
  · exact (tz_zero w).mono fun e w' h => ⟨h.1, h.2 ▸ Below.refl _ _⟩
theorem shl_any (x : BitVec 64) (n : Nat) : Op.shift .shl .u64 (tn x) .i64 (n : Int) = pure (.int .u64 (tn (x <<< n))) := by
  have e : Op.shift .shl .u64 (tn x) .i64 (n : Int) = pure (.int .u64 (IntKind.u64.wrap (tn x * 2 ^ (min n 64)))) := by
    simp [Op.shift, IntKind.bits]
    exact fun h => absurd h (by omega)
  rw [e, shl64, b64_tn]
  by_cases h : n ≤ 64
  · rw [Nat.min_eq_left h]
  · rw [Nat.min_eq_right (by omega), BitVec.shiftLeft_eq_zero (by omega), BitVec.shiftLeft_eq_zero (by omega)]
def mulR (a b : T) (k l : Nat) : T := if (a.m ||| b.m == 0#64) = true then ofR (aluV 64 32 a.lo b.lo) else ⟨0#64, BitVec.allOnes 64 <<< (k + l)⟩
set_option maxRecDepth 100000 in
set_option maxHeartbeats 1000000 in
theorem lowz_any (a : T) (k : Nat) (w : World) (hT : Tab w) (hk : TZ a.hi k) :
    Calls Tryd.prog 38 #[a.val] w fun e w' => e = .returned (.int .i64 (k : Int)) ∧ Below w.heap.size w w' := by
  have HT := hid hT
  have HK := hid hk
  clear hT hk
  have HS := hid (one_start w a)
  have HU := hid (one_ups w a)
  unfold T.val
  go_enter Tryd.func38, Tryd.ntmps38
  go_upto_region 1 with fail
  refine lin_begin (One w a) rfl (HS.out) ?_
  refine lin_val (i := 0) rfl rfl (by rfl) (by intro x hx; obtain ⟨hB, c⟩ := hx; obtain ⟨c0, c1⟩ := c.cells; go_simp; (first | done | exact rfl)) ?_
  simp only [List.set_cons_succ, List.set_cons_zero]
  refine lin_call (i := 1) (f := 40) (args := #[a.val]) HU.out rfl rfl (by rfl) (fun x hx => by kernel_rfl) (by intro x hx; obtain ⟨hB, c⟩ := hx; obtain ⟨c0, c1⟩ := c.cells; exact most_any a _) ?_
  simp only [List.set_cons_succ, List.set_cons_zero]
  refine lin_call (i := 2) (f := 50) (args := #[.int .u64 (tn a.hi)]) HU.out rfl rfl (by rfl) (fun x hx => by kernel_rfl) (by intro x hx; obtain ⟨hB, c⟩ := hx; obtain ⟨c0, c1⟩ := c.cells; exact tz_any a.hi k _ (HT.out.up hB) HK.out) ?_
  simp only [List.set_cons_succ, List.set_cons_zero]
  refine lin_val (i := 3) rfl rfl (by rfl) (by intro x hx; go_simp; (first | done | exact rfl)) ?_
  simp only [List.set_cons_succ, List.set_cons_zero]
  refine lin_done ?_
  intro x hx
  obtain ⟨hB, _⟩ := hx
  go_wp2
  go_ret
  exact ⟨rfl, hB⟩
set_option maxRecDepth 100000 in
set_option maxHeartbeats 1000000 in
theorem mul_any (a b : T) (k l : Nat) (w : World) (hT : Tab w) (hk : TZ a.hi k) (hl : TZ b.hi l) :
    Calls Tryd.prog 6 #[a.val, b.val] w fun e w' => e = .returned (mulR a b k l).val ∧ Below w.heap.size w w' := by
  have HT := hid hT
  have HK := hid hk
  have HL := hid hl
  have hk64 := hk.le
  have hl64 := hl.le
  clear hT hk hl
  have HS := hid (three_start w a b (.int .u64 0) (.int .u64 0))
  have HU := hid (three_ups w a b)
  unfold T.val
  go_enter Tryd.func6, Tryd.ntmps6
  go_upto_region 1 with fail
  refine lin_begin (Three w a b) rfl (HS.out) ?_
  refine lin_val (i := 0) rfl rfl (by rfl) (by intro x hx; obtain ⟨⟨hB, c, d⟩, z⟩ := hx; obtain ⟨c0, c1⟩ := c.cells; obtain ⟨d0, d1⟩ := d.cells; obtain ⟨z0, z1, z2, z3, z4, z5⟩ := z.facts; go_simp; (first | done | exact rfl)) ?_
  simp only [List.set_cons_succ, List.set_cons_zero]
  refine lin_val (i := 1) rfl rfl (by rfl) (by intro x hx; obtain ⟨⟨hB, c, d⟩, z⟩ := hx; obtain ⟨c0, c1⟩ := c.cells; obtain ⟨d0, d1⟩ := d.cells; obtain ⟨z0, z1, z2, z3, z4, z5⟩ := z.facts; go_simp; (first | done | exact rfl)) ?_
  simp only [List.set_cons_succ, List.set_cons_zero]
  refine lin_make (i := 2) HU.out rfl rfl (by rfl) (.cells #[.int .u64 (tn a.v), .int .u64 (tn a.m), .int .u64 (tn b.v), .int .u64 (tn b.m)] 24 (0, 0)) (fun k => .slice (some ⟨k, 0, none⟩) 2 2) (by intro x hx; obtain ⟨⟨hB, c, d⟩, z⟩ := hx; obtain ⟨c0, c1⟩ := c.cells; obtain ⟨d0, d1⟩ := d.cells; obtain ⟨z0, z1, z2, z3, z4, z5⟩ := z.facts; go_simp; (first | done | exact rfl)) (fun k0 w0 hw0 hk0 => ?_)
  simp only [List.set_cons_succ, List.set_cons_zero]
  clear hk0 hw0
  refine lin_call (i := 3) (f := 35) (args := #[.slice (some ⟨k0, 0, none⟩) 2 2]) (New.ups HU.out _ _) rfl rfl (by rfl) (fun x hx => by kernel_rfl) (by intro x hx; obtain ⟨hx, e⟩ := hx; obtain ⟨⟨hB, c, d⟩, z⟩ := hx; obtain ⟨c0, c1⟩ := c.cells; obtain ⟨d0, d1⟩ := d.cells; obtain ⟨z0, z1, z2, z3, z4, z5⟩ := z.facts; exact unk2_any _ a b _ e (Array.getElem?_eq_some_iff.1 e).1) ?_
  simp only [List.set_cons_succ, List.set_cons_zero]
  refine lin_val (i := 4) (v := .bool (a.m ||| b.m == 0#64)) rfl rfl (by rfl) (by intro x hx; go_simp; exact eq0T _; (first | done | exact rfl)) ?_
  simp only [List.set_cons_succ, List.set_cons_zero]
  refine lin_done ?_
  intro x hx
  replace HS := hid hx.1
  clear hx
  cases hn : (a.m ||| b.m == 0#64)
  · have HM := hid (show mulR a b k l = T.mk 0#64 (BitVec.allOnes 64 <<< (k + l)) by unfold mulR; rw [hn]; rfl)
    go_upto_region 4 with fail
    clear hn
    have HA := hid (show IntKind.i64.wrap ((k : Int) + (l : Int)) = ((k + l : Nat) : Int) from IntWalk.i64_in _ (by omega))
    refine up_begin (Three w a b) 10 rfl (by kernel_rfl) (three_ups w a b _ _ HS.out (Below.refl _ _).drew) ?_
    refine take_call (i := 0) (f := 8) (args := #[]) HU.out rfl rfl (by kernel_rfl) (fun _ _ _ h => h) (by rfl) (fun x hx => by kernel_rfl) (by intro x hx; obtain ⟨⟨hB, c, d⟩, z⟩ := hx; obtain ⟨c0, c1⟩ := c.cells; obtain ⟨d0, d1⟩ := d.cells; obtain ⟨z0, z1, z2, z3, z4, z5⟩ := z.facts; exact all_any _) ?_
    simp only [List.set_cons_succ, List.set_cons_zero]
    refine take_val (i := 1) (v := .int .u64 (tn (BitVec.allOnes 64))) HU.out rfl rfl (by kernel_rfl) (fun _ _ _ h => h) (by rfl) (by intro x hx; go_simp; (first | done | exact rfl)) ?_
    simp only [List.set_cons_succ, List.set_cons_zero]
    refine take_val (i := 2) HU.out rfl rfl (by kernel_rfl) (fun _ _ _ h => h) (by rfl) (by intro x hx; obtain ⟨⟨hB, c, d⟩, z⟩ := hx; obtain ⟨c0, c1⟩ := c.cells; obtain ⟨d0, d1⟩ := d.cells; obtain ⟨z0, z1, z2, z3, z4, z5⟩ := z.facts; go_simp; (first | done | exact rfl)) ?_
    simp only [List.set_cons_succ, List.set_cons_zero]
    refine take_call (i := 3) (f := 38) (args := #[a.val]) HU.out rfl rfl (by kernel_rfl) (fun _ _ _ h => h) (by rfl) (fun x hx => by kernel_rfl) (by intro x hx; obtain ⟨⟨hB, c, d⟩, z⟩ := hx; obtain ⟨c0, c1⟩ := c.cells; obtain ⟨d0, d1⟩ := d.cells; obtain ⟨z0, z1, z2, z3, z4, z5⟩ := z.facts; exact lowz_any a k _ (HT.out.up hB) HK.out) ?_
    simp only [List.set_cons_succ, List.set_cons_zero]
    refine take_val (i := 4) HU.out rfl rfl (by kernel_rfl) (fun _ _ _ h => h) (by rfl) (by intro x hx; obtain ⟨⟨hB, c, d⟩, z⟩ := hx; obtain ⟨c0, c1⟩ := c.cells; obtain ⟨d0, d1⟩ := d.cells; obtain ⟨z0, z1, z2, z3, z4, z5⟩ := z.facts; go_simp; (first | done | exact rfl)) ?_
    simp only [List.set_cons_succ, List.set_cons_zero]
    refine take_call (i := 5) (f := 38) (args := #[b.val]) HU.out rfl rfl (by kernel_rfl) (fun _ _ _ h => h) (by rfl) (fun x hx => by kernel_rfl) (by intro x hx; obtain ⟨⟨hB, c, d⟩, z⟩ := hx; obtain ⟨c0, c1⟩ := c.cells; obtain ⟨d0, d1⟩ := d.cells; obtain ⟨z0, z1, z2, z3, z4, z5⟩ := z.facts; exact lowz_any b l _ (HT.out.up hB) HL.out) ?_
    simp only [List.set_cons_succ, List.set_cons_zero]
    refine take_val (i := 6) HU.out rfl rfl (by kernel_rfl) (fun _ _ _ h => h) (by rfl) (by intro x hx; go_simp; (first | rw [HA.out] | skip); (first | done | exact rfl)) ?_
    simp only [List.set_cons_succ, List.set_cons_zero]
    refine take_val (i := 7) (v := .int .u64 (tn (BitVec.allOnes 64 <<< (k + l)))) HU.out rfl rfl (by kernel_rfl) (fun _ _ _ h => h) (by rfl) (by intro x hx; go_simp; rw [show ((k : Int) + (l : Int)) = ((k + l : Nat) : Int) from rfl, shl_any]; (first | done | exact rfl)) ?_
    simp only [List.set_cons_succ, List.set_cons_zero]
    refine take_val (i := 8) (v := (T.mk 0#64 (BitVec.allOnes 64 <<< (k + l))).val) HU.out rfl rfl (by kernel_rfl) (fun _ _ _ h => h) (by rfl) (by intro x hx; go_simp; (first | done | exact rfl)) ?_
    simp only [List.set_cons_succ, List.set_cons_zero]
    refine take_one (i := 9) (by kernel_rfl) (step_store (Done w a b (T.mk 0#64 (BitVec.allOnes 64 <<< (k + l)))) (done_ups _ _ _ _) (done_three _ _ _ _) rfl rfl (by rfl) (Put2 (w.heap.size + 2) _ _) (by intro x hx; obtain ⟨⟨hB, c, d⟩, z⟩ := hx; obtain ⟨c0, c1⟩ := c.cells; obtain ⟨d0, d1⟩ := d.cells; obtain ⟨z0, z1, z2, z3, z4, z5⟩ := z.facts; (try unfold T.val); go_simp; (first | done | rfl)) (by intro x hx; exact three_put _ _ _ (T.mk 0#64 (BitVec.allOnes 64 <<< (k + l))) _ hx) ?_)
    refine take_done (by kernel_rfl) ?_ _
    intro x hx
    obtain ⟨⟨hB, _, _⟩, hR⟩ := hx; obtain ⟨r0, r1⟩ := hR.cells
    go_wp2
    exact bodyPost_ret (v := .agg #[.int .u64 _, .int .u64 _]) (by simp [results, Tryd.results6, go_sem, r0, r1]; (try exact ⟨rfl, rfl⟩)) rfl ⟨by rw [HM.out]; (try rfl), hB⟩
  · have HM := hid (show mulR a b k l = ofR (aluV 64 32 a.lo b.lo) by unfold mulR; rw [hn]; rfl)
    go_upto_region 2 with fail
    clear hn
    refine up_begin (Three w a b) 10 rfl (by kernel_rfl) (three_ups w a b _ _ HS.out (Below.refl _ _).drew) ?_
    refine take_val (i := 0) HU.out rfl rfl (by kernel_rfl) (fun _ _ _ h => h) (by rfl) (by intro x hx; obtain ⟨⟨hB, c, d⟩, z⟩ := hx; obtain ⟨c0, c1⟩ := c.cells; obtain ⟨d0, d1⟩ := d.cells; obtain ⟨z0, z1, z2, z3, z4, z5⟩ := z.facts; go_simp; (first | done | exact rfl)) ?_
    simp only [List.set_cons_succ, List.set_cons_zero]
    refine take_call (i := 1) (f := 37) (args := #[a.val]) HU.out rfl rfl (by kernel_rfl) (fun _ _ _ h => h) (by rfl) (fun x hx => by kernel_rfl) (by intro x hx; obtain ⟨⟨hB, c, d⟩, z⟩ := hx; obtain ⟨c0, c1⟩ := c.cells; obtain ⟨d0, d1⟩ := d.cells; obtain ⟨z0, z1, z2, z3, z4, z5⟩ := z.facts; exact least_any a _) ?_
    simp only [List.set_cons_succ, List.set_cons_zero]
    refine take_val (i := 2) HU.out rfl rfl (by kernel_rfl) (fun _ _ _ h => h) (by rfl) (by intro x hx; obtain ⟨⟨hB, c, d⟩, z⟩ := hx; obtain ⟨c0, c1⟩ := c.cells; obtain ⟨d0, d1⟩ := d.cells; obtain ⟨z0, z1, z2, z3, z4, z5⟩ := z.facts; go_simp; (first | done | exact rfl)) ?_
    simp only [List.set_cons_succ, List.set_cons_zero]
    refine take_call (i := 3) (f := 37) (args := #[b.val]) HU.out rfl rfl (by kernel_rfl) (fun _ _ _ h => h) (by rfl) (fun x hx => by kernel_rfl) (by intro x hx; obtain ⟨⟨hB, c, d⟩, z⟩ := hx; obtain ⟨c0, c1⟩ := c.cells; obtain ⟨d0, d1⟩ := d.cells; obtain ⟨z0, z1, z2, z3, z4, z5⟩ := z.facts; exact least_any b _) ?_
    simp only [List.set_cons_succ, List.set_cons_zero]
    refine take_call (i := 4) (f := 36) (args := #[.int .i64 32, .bool true, .int .u64 (tn a.lo), .int .u64 (tn b.lo)]) HU.out rfl rfl (by kernel_rfl) (fun _ _ _ h => h) (by rfl) (fun x hx => by kernel_rfl) (by intro x hx; obtain ⟨⟨hB, c, d⟩, z⟩ := hx; obtain ⟨c0, c1⟩ := c.cells; obtain ⟨d0, d1⟩ := d.cells; obtain ⟨z0, z1, z2, z3, z4, z5⟩ := z.facts; exact alu_T 32 a.lo b.lo _) ?_
    simp only [List.set_cons_succ, List.set_cons_zero]
    refine take_val (i := 5) HU.out rfl rfl (by kernel_rfl) (fun _ _ _ h => h) (by rfl) (by intro x hx; go_simp; (first | done | exact rfl)) ?_
    simp only [List.set_cons_succ, List.set_cons_zero]
    refine take_val (i := 6) HU.out rfl rfl (by kernel_rfl) (fun _ _ _ h => h) (by rfl) (by intro x hx; go_simp; (first | done | exact rfl)) ?_
    simp only [List.set_cons_succ, List.set_cons_zero]
    refine take_val (i := 7) HU.out rfl rfl (by kernel_rfl) (fun _ _ _ h => h) (by rfl) (by intro x hx; go_simp; (first | done | exact rfl)) ?_
    simp only [List.set_cons_succ, List.set_cons_zero]
    refine take_val (i := 8) HU.out rfl rfl (by kernel_rfl) (fun _ _ _ h => h) (by rfl) (by intro x hx; go_simp; (first | done | exact rfl)) ?_
    simp only [List.set_cons_succ, List.set_cons_zero]
    refine take_val (i := 9) HU.out rfl rfl (by kernel_rfl) (fun _ _ _ h => h) (by rfl) (by intro x hx; go_simp; (first | done | exact rfl)) ?_
    simp only [List.set_cons_succ, List.set_cons_zero]
    refine take_done (by kernel_rfl) ?_ _
    intro x hx
    replace HS := hid hx
    clear hx
    go_upto_region 3 with fail
    refine lin_begin (Three w a b) rfl (HS.out) ?_
    refine lin_val (i := 0) rfl rfl (by rfl) (by intro x hx; go_simp; (first | done | exact rfl)) ?_
    simp only [List.set_cons_succ, List.set_cons_zero]
    refine lin_call (i := 1) (f := 7) (args := #[.int .u64 (tn (aluV 64 32 a.lo b.lo))]) HU.out rfl rfl (by rfl) (fun x hx => by kernel_rfl) (by intro x hx; obtain ⟨⟨hB, c, d⟩, z⟩ := hx; obtain ⟨c0, c1⟩ := c.cells; obtain ⟨d0, d1⟩ := d.cells; obtain ⟨z0, z1, z2, z3, z4, z5⟩ := z.facts; exact of_any (aluV 64 32 a.lo b.lo) _) ?_
    simp only [List.set_cons_succ, List.set_cons_zero]
    refine lin_store (i := 2) (Done w a b (ofR (aluV 64 32 a.lo b.lo))) rfl rfl (by rfl) (Put2 (w.heap.size + 2) _ _) (by intro x hx; obtain ⟨⟨hB, c, d⟩, z⟩ := hx; obtain ⟨c0, c1⟩ := c.cells; obtain ⟨d0, d1⟩ := d.cells; obtain ⟨z0, z1, z2, z3, z4, z5⟩ := z.facts; (try unfold T.val); go_simp; (first | done | rfl)) (by intro x hx; exact three_put _ _ _ (ofR (aluV 64 32 a.lo b.lo)) _ hx) ?_
    refine lin_done ?_
    intro x hx
    obtain ⟨⟨hB, _, _⟩, hR⟩ := hx; obtain ⟨r0, r1⟩ := hR.cells
    go_wp2
    exact bodyPost_ret (v := .agg #[.int .u64 _, .int .u64 _]) (by simp [results, Tryd.results6, go_sem, r0, r1]; (try exact ⟨rfl, rfl⟩)) rfl ⟨by rw [HM.out]; (try rfl), hB⟩
end Go.Proofs.YtpbhfpogbndljaaDoor.Tn
