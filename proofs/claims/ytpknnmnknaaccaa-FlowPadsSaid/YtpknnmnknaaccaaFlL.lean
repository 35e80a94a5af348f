/-
  Contracts of the kit's lists of numbers: a comparison, what is written over.
-/
import Derived.Test.YtpknnmnknaaccaaInsC
import Derived.Test.YtpknnmnknaaccaaInsD
namespace Go.Proofs.Ytpknnmnknaaccaa.Flow
open Go.RowKit Go.Proofs.Ytpknnmnknaaccaa.Num Go.Proofs.Ytpknnmnknaaccaa.ListB Go.Proofs.Ytpknnmnknaaccaa.Insn
theorem sameI_len (a b : Option Addr) (la lb ca cb : Nat) (w : World) (hne : la ≠ lb) :
    Calls Try.prog 14 #[.slice a la ca, .slice b lb cb] w (SamePost false w) := by
  have hd : ((la : Int) != (lb : Int)) = true := by rw [bne_iff_ne]; omega
  go_enter Try.func14, Try.ntmps14
  go_wp2
  go_ret
  exact ⟨rfl, 0, rfl⟩
theorem sameI_empty (a b : Option Addr) (ca cb : Nat) (w : World) :
    Calls Try.prog 14 #[.slice a 0 ca, .slice b 0 cb] w (SamePost true w) := by
  go_enter Try.func14, Try.ntmps14
  go_wp2
  refine wp_loop_rounds 1 ?_
  rw [rounds_succ]
  go_wp2
  go_ret
  exact ⟨rfl, 0, rfl⟩
set_option maxHeartbeats 400000 in
theorem sameI_row (a b oa ob n ca cb : Nat) (za zb : List Int) (w : World) (n1 : n ≤ 9223372036854775807) (ha : za.length = n) (hb : zb.length = n)
    (hca : ∀ i, i < n → w.cell? ⟨a, oa + i, none⟩ = some (.int .i64 (za.getD i 0))) (hcb : ∀ i, i < n → w.cell? ⟨b, ob + i, none⟩ = some (.int .i64 (zb.getD i 0))) :
    Calls Try.prog 14 #[.slice (some ⟨a, oa, none⟩) n ca, .slice (some ⟨b, ob, none⟩) n cb] w (SamePost (decide (za = zb)) w) := by
  have HA := hid hca; have HB := hid hcb; have LA := hid ha; have LB := hid hb
  clear hca hcb ha hb
  go_enter Try.func14, Try.ntmps14
  go_wp2
  go_loopw [5] (fun i wr => ∃ k m : Nat, k ≤ n ∧ i = .int .i64 k ∧ Hid (∀ j, j < k → za.getD j 0 = zb.getD j 0) ∧ wr = w.drewN m) (fun i _ => n - (intOf i).toNat)
  case atStart => exact ⟨0, 0, Nat.zero_le _, rfl, hid (fun j hj => by omega), rfl⟩
  case round =>
    obtain ⟨k, m, hk, rfl, HE, rfl⟩ := hrel
    by_cases hlt : k < n
    · have hc1 := HA.out k hlt
      have hc2 := HB.out k hlt
      have hk0 : (0 : Int) ≤ (k : Int) := by omega
      have hk1 : (k : Int) < (n : Int) := by omega
      by_cases he : za.getD k 0 = zb.getD k 0
      · rw [he] at hc1
        have hE2 : Hid (∀ j, j < k + 1 → za.getD j 0 = zb.getD j 0) := hid fun j hj => by
          by_cases hjk : j = k
          · rw [hjk]; exact he
          · exact HE.out j (by omega)
        clear he
        generalize zb.getD k 0 = y at hc1 hc2
        go_wp2
        go_quiet (fail)
        go_wp2
        go_roundw
        case rel => exact ⟨k + 1, _, by omega, by go_num, hE2, rfl⟩
        case measure => simp [intOf]; omega
      · have hne : decide (za = zb) = false := by rw [decide_eq_false_iff_not]; intro h; exact he (by rw [h])
        have Hne := hid hne
        generalize za.getD k 0 = x at hc1 he
        generalize zb.getD k 0 = y at hc2 he
        have hb2 : (x != y) = true := by rw [bne_iff_ne]; exact he
        clear he hne
        go_wp2
        go_quiet (fail)
        go_wp2
        go_ret
        exact ⟨by rw [Hne.out]; rfl, _, World.drewN_drewN _ _ _⟩
    · have hkn : k = n := by omega
      have hall : decide (za = zb) = true := by
        rw [decide_eq_true_eq]
        exact ext_list za zb n LA.out LB.out (fun j hj => HE.out j (by omega))
      have Hall := hid hall
      have hge : n ≤ k := by omega
      clear hkn hall
      go_wp2
      go_ret
      exact ⟨by rw [Hall.out]; rfl, _, rfl⟩


/-- A slice of numbers that is there to be read. -/
def ArgI (w : World) (v : Value) (zs : List Int) : Prop :=
  ∃ a cap, v = .slice a zs.length cap ∧ (0 < zs.length → ∃ b off, a = some ⟨b, off, none⟩ ∧ b < w.heap.size ∧ ∀ i, i < zs.length → w.cell? ⟨b, off + i, none⟩ = some (.int .i64 (zs.getD i 0)))
theorem ArgI.up {w w' : World} {v : Value} {zs : List Int} (h : ArgI w v zs) (hb : Below w.heap.size w w') : ArgI w' v zs := by
  obtain ⟨a, cap, hv, hr⟩ := h
  refine ⟨a, cap, hv, fun h0 => ?_⟩
  obtain ⟨b, off, ha, hw, hc⟩ := hr h0
  exact ⟨b, off, ha, Nat.lt_of_lt_of_le hw hb.size, fun i hi => (hb.cell (show b < _ from hw)).trans (hc i hi)⟩
theorem VI_length (zs : List Int) : (VI zs).length = zs.length := by unfold VI; simp
theorem own_argI {w : World} {base n : Nat} {v : Value} {zs : List Int} (h : w.ownsRow base 3 1 v n (VI zs)) : ArgI w v zs := by
  have hn : zs.length = n := by have := h.1; rw [VI_length] at this; omega
  rcases h.2 with ⟨rfl, h0⟩ | ⟨g, cap, cur, rfl, _⟩
  · exact ⟨none, 0, by rw [hn, h0], fun h1 => absurd h1 (by omega)⟩
  · refine ⟨_, cap, by rw [hn], fun h0 => ⟨g, 0, rfl, (h.lt g rfl).2, fun i hi => ?_⟩⟩
    rw [Nat.zero_add, h.cellAt i (by omega)]
    exact VI_get zs i hi
theorem sameI_any (v1 v2 : Value) (zs1 zs2 : List Int) (w : World) (hn : zs1.length ≤ 9223372036854775807) (h1 : ArgI w v1 zs1) (h2 : ArgI w v2 zs2) :
    Calls Try.prog 14 #[v1, v2] w (SamePost (decide (zs1 = zs2)) w) := by
  obtain ⟨a1, c1, rfl, r1⟩ := h1
  obtain ⟨a2, c2, rfl, r2⟩ := h2
  by_cases hl : zs1.length = zs2.length
  · by_cases h0 : 0 < zs1.length
    · obtain ⟨b1, o1, rfl, _, k1⟩ := r1 h0
      obtain ⟨b2, o2, rfl, _, k2⟩ := r2 (by omega)
      rw [← hl]
      exact sameI_row b1 b2 o1 o2 zs1.length c1 c2 zs1 zs2 w hn rfl hl.symm k1 (fun i hi => k2 i (by omega))
    · have e1 : zs1 = [] := List.length_eq_zero_iff.1 (by omega)
      have e2 : zs2 = [] := List.length_eq_zero_iff.1 (by omega)
      subst e1; subst e2
      exact sameI_empty _ _ _ _ _
  · rw [show decide (zs1 = zs2) = false from by rw [decide_eq_false_iff_not]; intro e; exact hl (by rw [e])]
    exact sameI_len _ _ _ _ _ _ _ hl
theorem markI_any (i : Int) (w : World) (i0 : 0 ≤ i) (i1 : i ≤ 1000000) :
    Calls Try.prog 44 #[.int .i64 i] w fun e w' => e = .returned (.int .i64 (7001 + 13 * i)) ∧ w = w' := by
  go_enter Try.func44, Try.ntmps44
  go_wp2
  go_ret
  exact ⟨rfl, rfl⟩
theorem spoilI_nil (a : Option Addr) (cap : Nat) (w : World) :
    Calls Try.prog 21 #[.slice a 0 cap] w fun e w' => e = .returned (.tuple #[]) ∧ w = w' := by
  go_enter Try.func21, Try.ntmps21
  go_wp2
  refine wp_loop_rounds 1 ?_
  rw [rounds_succ]
  go_wp2
  go_end0
  exact ⟨rfl, rfl⟩
set_option maxHeartbeats 1000000 in
theorem spoilI_row (base g n c : Nat) (xs : List Value) (w : World) (hn : n ≤ 100000) (h : w.ownsRow base 3 1 (.slice (some ⟨g, 0, none⟩) n c) n xs) :
    Calls Try.prog 21 #[.slice (some ⟨g, 0, none⟩) n c] w fun e w' => e = .returned (.tuple #[]) ∧ w.grownBy w' (some g) := by
  have HO := hid h
  clear h
  go_enter Try.func21, Try.ntmps21
  go_wp2
  go_loopw [2] (fun i wr => ∃ k : Nat, k ≤ n ∧ i = .int .i64 k ∧ (∃ ys, wr.ownsRow base 3 1 (.slice (some ⟨g, 0, none⟩) n c) n ys) ∧ w.grownBy wr (some g)) (fun i _ => n - (intOf i).toNat)
  case atStart => exact ⟨0, Nat.zero_le _, rfl, ⟨xs, HO.out⟩, World.grownBy.refl _ _⟩
  case round =>
    obtain ⟨k, hk, rfl, ⟨ys, hown⟩, hgr⟩ := hrel
    by_cases hlt : k < n
    · have HG := hid hgr
      have HOW := hid hown
      clear hgr hown
      obtain ⟨u0, c0⟩ := own_some HOW.out k (by omega)
      have f0 := HOW.out.frozenAt k
      go_wp2_with fail
      refine (markI_any _ _ (by omega) (by omega)).mono ?_
      rintro e w2 ⟨rfl, rfl⟩
      generalize 7001 + 13 * ((k : Int) + 7) = z
      have s0 := HOW.out.stored k (.int .i64 z)
      have HF := hid (And.intro s0.1 (grownBy_trans' HG.out s0.2))
      clear s0
      go_wp2
      go_roundw
      case rel => exact ⟨k + 1, by omega, by go_num, ⟨_, HF.out.1⟩, HF.out.2⟩
      case measure => simp [intOf]; omega
    · have HG := hid hgr
      clear hgr hown
      go_wp2
      go_end0
      exact ⟨rfl, HG.out⟩
theorem spoilI_any (base n : Nat) (v : Value) (xs : List Value) (w : World) (hn : n ≤ 100000) (h : w.ownsRow base 3 1 v n xs) :
    Calls Try.prog 21 #[v] w fun e w' => e = .returned (.tuple #[]) ∧ w.grownBy w' v.ownBlock := by
  by_cases h0 : 0 < n
  · obtain ⟨g, c, rfl⟩ := own_shapeG h h0
    exact spoilI_row base g n c xs w hn h
  · obtain rfl : n = 0 := by omega
    rcases h.2 with ⟨rfl, _⟩ | ⟨g, c, cu, rfl, _⟩
    · refine (spoilI_nil none 0 w).mono ?_
      rintro e w' ⟨rfl, rfl⟩
      exact ⟨rfl, World.grownBy.refl _ _⟩
    · refine (spoilI_nil (some ⟨g, 0, none⟩) c w).mono ?_
      rintro e w' ⟨rfl, rfl⟩
      exact ⟨rfl, World.grownBy.refl _ _⟩
end Go.Proofs.Ytpknnmnknaaccaa.Flow
