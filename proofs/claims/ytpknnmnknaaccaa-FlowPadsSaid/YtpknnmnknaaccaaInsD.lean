/-
  Contracts of the kit's lists: what is lent is looked at again; what is written over; Pick.
-/
import Derived.Test.YtpknnmnknaaccaaInsC
import Derived.Test.YtpknnmnknaaccaaDevEnter
namespace Go.Proofs.Ytpknnmnknaaccaa.Insn
open Go.RowKit Go.Proofs.Ytpknnmnknaaccaa.Num Go.Proofs.Ytpknnmnknaaccaa.ListB
theorem nrow_left {w : World} {g off : Nat} {a b : List In} (h : NRow w g off (a ++ b)) : NRow w g off a := fun k x hx => h k x (by
  rw [List.getElem?_append_left (List.getElem?_eq_some_iff.1 hx).1]; exact hx)
theorem nrow_right {w : World} {g off : Nat} {a b : List In} (h : NRow w g off (a ++ b)) : NRow w g (off + a.length * 5) b := fun k x hx => by
  have := h (a.length + k) x (by rw [List.getElem?_append_right (by omega), Nat.add_sub_cancel_left]; exact hx)
  rw [Nat.add_mul, ← Nat.add_assoc] at this
  exact this
set_option maxHeartbeats 1000000 in
/-- What was lent is as it was. -/
theorem keptN_any (a : Option Addr) (g c len cap : Nat) (l : List In) (w : World) (h : ArgN w a len l) (hl : len ≤ 3518437208000) (hc : len + 5 ≤ c) (hg : g < w.heap.size) (hcell : NRow w g 0 (l ++ marksN)) :
    Calls Try.prog 16 #[.slice (some ⟨g, 0, none⟩) (len + 5) c, .slice a len cap] w fun e w' => e = .returned (.bool true) ∧ Below w.heap.size w w' := by
  have hz := h.1
  have HS1 : Hid (Calls Try.prog 41 #[.slice (some ⟨g, 0, none⟩) len c, .slice a len cap] w (SamePost true w)) := hid (by
    by_cases h0 : 0 < len
    · obtain ⟨b, off, rfl, hb, hcb⟩ := h.2 h0
      have S := sameN_row g b 0 off len c cap l l w (by omega) hz hz (nrow_left hcell) hcb
      rw [show decide (l = l) = true by simp] at S
      exact S
    · obtain rfl : len = 0 := by omega
      exact sameN_empty _ _ _ _ _)
  have HM := hid (show NRow w g (len * 5) marksN from by have := nrow_right hcell; rw [Nat.zero_add, hz] at this; exact this)
  clear hcell h hz
  obtain ⟨i0, hi, hz0, hz1, hz2⟩ := info_parts infoIn
  go_enter Try.func16, Try.ntmps16
  go_wp2_with fail
  refine HS1.out.mono ?_
  rintro e w1 ⟨rfl, n, rfl⟩
  go_wp2
  go_loopw [5, 6] (fun v i wr => ∃ k : Nat, k ≤ 5 ∧ i = .int .i64 k ∧ wr.ownsRow w.heap.size 35 5 v k (VN (marksN.take k)) ∧ Below w.heap.size w wr) (fun _ i _ => 5 - (intOf i).toNat)
  case atStart => exact ⟨0, Nat.zero_le _, rfl, World.ownsRow_nil _ _ _ _, ListB.below_drewN (Below.refl _ _) n⟩
  case round =>
    obtain ⟨k, hk, rfl, hown, hbel⟩ := hrel
    by_cases hlt : k < 5
    · have HS := hid (marksN_snoc [] k hlt)
      simp only [List.nil_append] at HS
      have hsz := hbel.size
      go_wp2_with fail
      refine (markN_any _ _ (by omega) (by omega)).mono ?_
      rintro e w2 ⟨rfl, hb2⟩
      have hown2 := hown.kept (grown_of2 hb2) (Classical.em _)
      have hbel2 : Below w.heap.size w w2 := hbel.trans (hb2.mono hsz)
      have hsz2 := hbel2.size
      clear hown hbel hb2 hsz
      generalize (-9 : Int) - (k : Int) = x at HS ⊢
      go_wp2_with (at_builtin; refine wpList_append_own _ rfl _ _ 22 rfl w.heap.size 35 i0 (.agg #[.int .i64 0, .int .i64 0, .int .i64 0, .int .i64 0, .int .i64 0]) 5 40 Try.underlying22 hi hz0 hz1 hz2 rfl (by decide) _ _ _ rfl (hown2.alloc _) ⟨w2.heap.size, 0, none⟩ 1 1 [.int .i64 x, .int .i64 0, .int .i64 0, .int .i64 0, .int .i64 0] rfl rfl ?c1 ?c2 ?c3 ?c4 ?c5 ?_)
      case c1 => exact five_new _ _ _ _ _ _ _
      case c2 => exact five_one _ _ _ _ _
      case c3 => unfold maxLen; omega
      case c4 => omega
      case c5 => simp; omega
      intro v' w3 hown' hgrow _
      rw [HS.out] at hown'
      have hbel' : Below w.heap.size w w3 := (hbel2.alloc hsz2 _).grown hgrow (by simp; omega) (fun q hq => (hown2.alloc (.cells #[.int .i64 x, .int .i64 0, .int .i64 0, .int .i64 0, .int .i64 0] 35)).lt q hq |>.1)
      clear hgrow hown2 hbel2
      go_wp2
      go_roundw
      case rel => exact ⟨k + 1, by omega, by go_num, hown', hbel'⟩
      case measure => simp [intOf]; omega
    · have hkk : k = 5 := by omega
      have hown2 := hown
      rw [hkk, List.take_of_length_le (by simp [marksN])] at hown2
      clear hown
      obtain ⟨g2, c2, rfl⟩ := own_shapeG hown2 (by omega)
      have S := sameN_row g g2 (len * 5) 0 5 (c - len) c2 marksN marksN wr (by omega) rfl rfl (HM.out.below hbel hg) (nrow_own hown2)
      rw [show decide (marksN = marksN) = true by simp] at S
      have HS2 := hid S
      clear S hown2
      have cne : ¬ c = len := by omega
      go_wp2_with fail
      refine HS2.out.mono ?_
      rintro e w2 ⟨rfl, m, rfl⟩
      go_wp2
      go_ret
      exact ⟨rfl, ListB.below_drewN hbel m⟩
theorem own_some {w : World} {base g n c size : Nat} {e : TypeId} {xs : List Value} (h : w.ownsRow base e size (.slice (some ⟨g, 0, none⟩) n c) n xs) (j : Nat) (hj : j < n * size) : ∃ u, w.cell? ⟨g, j, none⟩ = some u :=
  ⟨_, (h.cellAt j hj).trans (List.getElem?_eq_getElem (by rw [h.1]; exact hj))⟩
end Go.Proofs.Ytpknnmnknaaccaa.Insn
