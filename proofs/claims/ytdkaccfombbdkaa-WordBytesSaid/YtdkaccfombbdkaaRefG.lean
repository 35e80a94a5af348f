/-
  Contracts of the document's answers for bytes: Put where the number fits.
-/
import Derived.Test.YtdkaccfombbdkaaRefF
namespace Go.Proofs.Ytdkaccfombbdkaa.RefB
open Go.RowKit Go.Proofs.Ytdkaccfombbdkaa.Num Go.Proofs.Ytdkaccfombbdkaa.ListB Go.Proofs.Ytdkaccfombbdkaa.Bytes
def vk (v n m k : Nat) : Nat := v / 256 ^ (min (k - n) m)
theorem vk_low (v n m k : Nat) (h : k < n) : vk v n m (k + 1) = vk v n m k := by
  unfold vk; rw [show k + 1 - n = 0 by omega, show k - n = 0 by omega]
theorem vk_in (v n m k : Nat) (h : n ≤ k) (h2 : k < n + m) : vk v n m (k + 1) = vk v n m k / 256 := by
  unfold vk; rw [show min (k + 1 - n) m = min (k - n) m + 1 by omega, Nat.pow_succ, Nat.div_div_eq_div_mul]
theorem vk_high (v n m k : Nat) (h : n + m ≤ k) : vk v n m (k + 1) = vk v n m k := by
  unfold vk; rw [show min (k + 1 - n) m = min (k - n) m by omega]
theorem vk_at (v n m k : Nat) (h : n ≤ k) (h2 : k < n + m) : vk v n m k = v / 256 ^ (k - n) := by
  unfold vk; rw [show min (k - n) m = k - n by omega]
theorem vk_le (v n m k : Nat) : vk v n m k ≤ v := Nat.div_le_self _ _
set_option maxHeartbeats 2000000 in
theorem rput_yes (b off len cap n m : Nat) (zs : List Int) (v : Int) (w : World) (h : Arg w (some ⟨b, off, none⟩) len zs) (hl : len ≤ 140737488355328) (hb : b < w.heap.size)
    (hc : ∀ i, i < len → w.cell? ⟨b, off + i, none⟩ = some (.int .u8 (zs.getD i 0))) (hf : fitsB len n m = true) (hnm : n + m ≤ len) (hm8 : m ≤ 8) (v0 : 0 ≤ v) (v1 : v ≤ 18446744073709551615) :
    Calls Try.prog 21 #[.slice (some ⟨b, off, none⟩) len cap, .int .i64 n, .int .i64 m, .int .u64 v] w (PutPost w len (putK zs n v.toNat m) true) := by
  have H := there_any (some ⟨b, off, none⟩) len cap n m w (by omega)
  rw [hf] at H
  have K := hid H; clear H hf
  obtain ⟨i0, hi, hz0, hz1, hz2⟩ := info_parts info8
  have HZ := hid h.1
  have HC := hid hc
  have PL := hid (putK_length zs n v.toNat m)
  have PG := hid (fun j => putK_get zs n v.toNat m j (by rw [HZ.out]; exact hnm))
  obtain ⟨q, rfl⟩ := Int.eq_ofNat_of_zero_le v0
  rw [Int.toNat_natCast] at PL PG ⊢
  generalize putK zs n q m = R at PL PG ⊢
  have hv0 : Hid (q = vk q n m 0) := hid (by unfold vk; rw [show min (0 - n) m = 0 by omega]; simp)
  clear hc h
  go_enter Try.func21, Try.ntmps21
  go_wp2_with fail
  refine K.out.mono ?_
  rintro e w' ⟨rfl, rfl⟩
  go_wp2
  go_loopw [3, 10, 12, 13] (fun u o i _ wr => ∃ k : Nat, k ≤ len ∧ i = .int .i64 k ∧ u = .int .u64 (vk q n m k : Nat) ∧ wr.ownsRow w.heap.size 5 1 o k (V (R.take k)) ∧ Below w.heap.size w wr) (fun _ _ i _ _ => len - (intOf i).toNat)
  case atStart => exact ⟨0, Nat.zero_le _, rfl, by rw [← hv0.out], World.ownsRow_nil _ _ _ _, Below.refl _ _⟩
  case round =>
    obtain ⟨k, hk, rfl, rfl, hown, hbel⟩ := hrel
    by_cases hlt : k < len
    · have hck := (hbel.cell (show b < _ from hb)).trans (HC.out k hlt)
      have hsn := take_snoc R k (by rw [PL.out, HZ.out]; exact hlt)
      rw [PG.out k] at hsn
      have hsz := hbel.size
      have ul := vk_le q n m k
      by_cases hkn : k < n
      · rw [if_neg (by omega)] at hsn
        have hvn := hid (vk_low q n m k hkn)
        have d1 : decide ((n : Int) ≤ (k : Int)) = false := by simp; omega
        have d1' : decide (n ≤ k) = false := by simp; omega
        generalize vk q n m k = u at hvn ul ⊢
        generalize zs.getD k 0 = x at hck hsn
        have HS := hid hsn; clear hsn
        go_wp2_with (at_builtin; refine wpList_append_own _ rfl _ _ 30 rfl w.heap.size 5 i0 (.int .u8 0) 1 1 Try.underlying30 hi hz0 hz1 hz2 rfl (by decide) _ _ _ rfl (hown.alloc _) ⟨wr.heap.size, 0, none⟩ 1 1 [.int .u8 x] rfl rfl ?c1 ?c2 ?c3 ?c4 ?c5 ?_)
        case c1 => exact cell_one_new _ _ _
        case c2 => intro u hu; simp at hu; subst hu; rfl
        case c3 => unfold maxLen; omega
        case c4 => omega
        case c5 => simp; omega
        intro v' w1 hown' hgrow _
        rw [HS.out] at hown'
        have hbel' : Below w.heap.size w w1 := (hbel.alloc hsz _).grown hgrow (by simp; omega) (fun q hq => (hown.alloc (.cells #[.int .u8 x] 5)).lt q hq |>.1)
        clear hgrow hown hck hbel
        go_wp2
        go_roundw
        case rel => exact ⟨k + 1, by omega, by go_num, by rw [hvn.out], hown', hbel'⟩
        case measure => simp [intOf]; omega
      · by_cases hkm : k < n + m
        · rw [if_pos (by omega), ← vk_at q n m k (by omega) hkm] at hsn
          have hvn := hid (vk_in q n m k (by omega) hkm)
          have d1 : decide ((n : Int) ≤ (k : Int)) = true := by simp; omega
          have d1' : decide (n ≤ k) = true := by simp; omega
          have d2 : decide ((k : Int) - (n : Int) < (m : Int)) = true := by simp; omega
          have g1 : (n : Int) ≤ (k : Int) := by omega
          have g2 : (k : Int) - (n : Int) < (m : Int) := by omega
          generalize vk q n m k = u at hvn ul hsn ⊢
          generalize zs.getD k 0 = x at hck
          have HS := hid hsn; clear hsn
          go_wp2_with (at_builtin; refine wpList_append_own _ rfl _ _ 30 rfl w.heap.size 5 i0 (.int .u8 0) 1 1 Try.underlying30 hi hz0 hz1 hz2 rfl (by decide) _ _ _ rfl (hown.alloc _) ⟨wr.heap.size, 0, none⟩ 1 1 [.int .u8 ((u : Int) % 256)] rfl rfl ?d1 ?d2 ?d3 ?d4 ?d5 ?_)
          case d1 => exact cell_one_new _ _ _
          case d2 => intro u hu; simp at hu; subst hu; rfl
          case d3 => unfold maxLen; omega
          case d4 => omega
          case d5 => simp; omega
          intro v' w1 hown' hgrow _
          rw [show [Value.int .u8 ((u : Int) % 256)] = [Value.int .u8 ((u % 256 : Nat) : Int)] by simp, HS.out] at hown'
          have hbel' : Below w.heap.size w w1 := (hbel.alloc hsz _).grown hgrow (by simp; omega) (fun q hq => (hown.alloc (.cells #[.int .u8 ((u : Int) % 256)] 5)).lt q hq |>.1)
          clear hgrow hown hck hbel
          go_wp2
          go_roundw
          case rel => exact ⟨k + 1, by omega, by go_num, by rw [hvn.out]; simp, hown', hbel'⟩
          case measure => simp [intOf]; omega
        · rw [if_neg (by omega)] at hsn
          have hvn := hid (vk_high q n m k (by omega))
          have d1 : decide ((n : Int) ≤ (k : Int)) = true := by simp; omega
          have d1' : decide (n ≤ k) = true := by simp; omega
          have d2 : decide ((k : Int) - (n : Int) < (m : Int)) = false := by simp; omega
          have g1 : (n : Int) ≤ (k : Int) := by omega
          have g2 : (m : Int) ≤ (k : Int) - (n : Int) := by omega
          generalize vk q n m k = u at hvn ul ⊢
          generalize zs.getD k 0 = x at hck hsn
          have HS := hid hsn; clear hsn
          go_wp2_with (at_builtin; refine wpList_append_own _ rfl _ _ 30 rfl w.heap.size 5 i0 (.int .u8 0) 1 1 Try.underlying30 hi hz0 hz1 hz2 rfl (by decide) _ _ _ rfl (hown.alloc _) ⟨wr.heap.size, 0, none⟩ 1 1 [.int .u8 x] rfl rfl ?e1 ?e2 ?e3 ?e4 ?e5 ?_)
          case e1 => exact cell_one_new _ _ _
          case e2 => intro u hu; simp at hu; subst hu; rfl
          case e3 => unfold maxLen; omega
          case e4 => omega
          case e5 => simp; omega
          intro v' w1 hown' hgrow _
          rw [HS.out] at hown'
          have hbel' : Below w.heap.size w w1 := (hbel.alloc hsz _).grown hgrow (by simp; omega) (fun q hq => (hown.alloc (.cells #[.int .u8 x] 5)).lt q hq |>.1)
          clear hgrow hown hck hbel
          go_wp2
          go_roundw
          case rel => exact ⟨k + 1, by omega, by go_num, by rw [hvn.out], hown', hbel'⟩
          case measure => simp [intOf]; omega
    · have hkk : k = len := by omega
      have hown2 := hown
      rw [hkk, List.take_of_length_le (by rw [PL.out, HZ.out]; omega)] at hown2
      clear hown
      have hge : len ≤ k := by omega
      clear hkk hlt
      go_wp2
      go_ret2
      exact ⟨_, rfl, hown2, hbel⟩
end Go.Proofs.Ytdkaccfombbdkaa.RefB
