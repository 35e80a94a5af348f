/-
  Contracts of the kit's lists of bytes: SameBytes.
-/
import Derived.Test.YtccjfnkneiggcaaListA
namespace Go.Proofs.Ytccjfnkneiggcaa.ListB
open Go.RowKit Go.Proofs.Ytccjfnkneiggcaa.Num
def SamePost (r : Bool) (w : World) (e : Ending) (w' : World) : Prop := e = .returned (.bool r) ∧ ∃ n, w' = w.drewN n
theorem below_drewN {B : Nat} {a w : World} (h : Below B a w) (n : Nat) : Below B a (w.drewN n) := ⟨h.os, h.tape, h.output, h.size, h.block⟩
theorem same_len (a b : Option Addr) (la lb ca cb : Nat) (w : World) (hne : la ≠ lb) :
    Calls Try.prog 21 #[.slice a la ca, .slice b lb cb] w (SamePost false w) := by
  have hd : ((la : Int) != (lb : Int)) = true := by rw [bne_iff_ne]; omega
  go_enter Try.func21, Try.ntmps21
  go_wp2
  go_ret
  exact ⟨rfl, 0, rfl⟩
theorem same_empty (a b : Option Addr) (ca cb : Nat) (w : World) :
    Calls Try.prog 21 #[.slice a 0 ca, .slice b 0 cb] w (SamePost true w) := by
  go_enter Try.func21, Try.ntmps21
  go_wp2
  refine wp_loop_rounds 1 ?_
  rw [rounds_succ]
  go_wp2
  go_ret
  exact ⟨rfl, 0, rfl⟩
theorem ext_list (za zb : List Int) (n : Nat) (h1 : za.length = n) (h2 : zb.length = n) (h : ∀ j, j < n → za.getD j 0 = zb.getD j 0) : za = zb := by
  apply List.ext_getElem (by omega)
  intro j hj hj'
  have := h j (by omega)
  simpa [List.getD_eq_getElem?_getD, hj, hj'] using this
set_option maxHeartbeats 400000 in
theorem same_row (a b oa ob n ca cb : Nat) (za zb : List Int) (w : World) (n1 : n ≤ 9223372036854775807) (ha : za.length = n) (hb : zb.length = n)
    (hca : ∀ i, i < n → w.cell? ⟨a, oa + i, none⟩ = some (.int .u8 (za.getD i 0))) (hcb : ∀ i, i < n → w.cell? ⟨b, ob + i, none⟩ = some (.int .u8 (zb.getD i 0))) :
    Calls Try.prog 21 #[.slice (some ⟨a, oa, none⟩) n ca, .slice (some ⟨b, ob, none⟩) n cb] w (SamePost (decide (za = zb)) w) := by
  have HA := hid hca; have HB := hid hcb; have LA := hid ha; have LB := hid hb
  clear hca hcb ha hb
  go_enter Try.func21, Try.ntmps21
  go_wp2
  go_loopw [5] (fun i wr => ∃ k m : Nat, k ≤ n ∧ i = .int .i64 k ∧ Hid (∀ j, j < k → za.getD j 0 = zb.getD j 0) ∧ wr = w.drewN m) (fun i _ => n - (intOf i).toNat)
  case atStart => exact ⟨0, 0, Nat.zero_le _, rfl, hid (fun j hj => by omega), rfl⟩
  case round =>
    obtain ⟨k, m, hk, rfl, HE, rfl⟩ := hrel
    by_cases hlt : k < n
    · have hc1 := HA.out k hlt
      have hc2 := HB.out k hlt
      have hk0 : (0 : Int) ≤ (k : Int) := by omega
      have hk1 : (k : Int) < (n : Int) := by omega
      by_cases he : za.getD k 0 = zb.getD k 0
      · rw [he] at hc1
        have hE2 : Hid (∀ j, j < k + 1 → za.getD j 0 = zb.getD j 0) := hid fun j hj => by
          by_cases hjk : j = k
          · rw [hjk]; exact he
          · exact HE.out j (by omega)
        clear he
        generalize zb.getD k 0 = y at hc1 hc2
        go_wp2
        go_quiet (fail)
        go_wp2
        go_roundw
        case rel => exact ⟨k + 1, _, by omega, by go_num, hE2, rfl⟩
        case measure => simp [intOf]; omega
      · have hne : decide (za = zb) = false := by rw [decide_eq_false_iff_not]; intro h; exact he (by rw [h])
        have Hne := hid hne
        generalize za.getD k 0 = x at hc1 he
        generalize zb.getD k 0 = y at hc2 he
        have hb2 : (x != y) = true := by rw [bne_iff_ne]; exact he
        clear he hne
        go_wp2
        go_quiet (fail)
        go_wp2
        go_ret
        exact ⟨by rw [Hne.out]; rfl, _, World.drewN_drewN _ _ _⟩
    · have hkn : k = n := by omega
      have hall : decide (za = zb) = true := by
        rw [decide_eq_true_eq]
        exact ext_list za zb n LA.out LB.out (fun j hj => HE.out j (by omega))
      have Hall := hid hall
      have hge : n ≤ k := by omega
      clear hkn hall
      go_wp2
      go_ret
      exact ⟨by rw [Hall.out]; rfl, _, rfl⟩
end Go.Proofs.Ytccjfnkneiggcaa.ListB
