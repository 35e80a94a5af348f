/-
  Contracts of the kit's lists of bytes: what is lent, and looked at again.
-/
import Derived.Test.YtccjfnkneiggcaaListB
namespace Go.Proofs.Ytccjfnkneiggcaa.ListB
open Go.RowKit Go.Proofs.Ytccjfnkneiggcaa.Num
theorem mark_any (i : Int) (w : World) (i0 : 0 ≤ i) (i1 : i < 5) :
    Calls Try.prog 45 #[.int .i64 i] w fun e w' => e = .returned (.int .u8 (201 + 7 * i)) ∧ w = w' := by
  go_enter Try.func45, Try.ntmps45
  go_wp2
  go_ret
  exact ⟨rfl, rfl⟩
def marks : List Int := [201, 208, 215, 222, 229]
theorem marks_get : ∀ k : Fin 5, marks.getD k.val 0 = 201 + 7 * (k.val : Int) := by decide
theorem marks_bd (i : Nat) : 0 ≤ marks.getD i 0 ∧ marks.getD i 0 ≤ 255 := by
  by_cases h : i < 5
  · rw [marks_get ⟨i, h⟩]; simp only; omega
  · rw [List.getD_eq_getElem?_getD, List.getElem?_eq_none (by simp [marks]; omega)]; simp
/-- A list of bytes that is the call's own. -/
def OwnPost (w : World) (len : Nat) (zs : List Int) (e : Ending) (w' : World) : Prop :=
  ∃ v, e = .returned v ∧ w'.ownsRow w.heap.size 5 1 v len (V zs) ∧ Below w.heap.size w w'
theorem copy_own (a : Option Addr) (len cap : Nat) (zs : List Int) (w : World) (h : Arg w a len zs) (hl : len ≤ 140737488355328) :
    Calls Try.prog 31 #[.slice a len cap] w (OwnPost w len zs) := by
  by_cases h0 : 0 < len
  · refine (copy_row a len cap zs w h h0 hl).mono ?_
    rintro e w' ⟨g, c, rfl, hown, hbel⟩
    exact ⟨_, rfl, hown, hbel⟩
  · obtain rfl : len = 0 := by omega
    obtain rfl : zs = [] := List.length_eq_zero_iff.1 h.1
    refine (copy_nil a cap w).mono ?_
    rintro e w' ⟨rfl, rfl⟩
    exact ⟨_, rfl, World.ownsRow_nil _ _ _ _, Below.refl _ _⟩
theorem V_append (a b : List Int) : V (a ++ b) = V a ++ V b := by unfold V; rw [List.map_append]
theorem marks_snoc (zs : List Int) (k : Nat) (h : k < 5) : V (zs ++ marks.take k) ++ [.int .u8 (201 + 7 * (k : Int))] = V (zs ++ marks.take (k + 1)) := by
  have e := take_snoc marks k h
  rw [marks_get ⟨k, h⟩] at e
  rw [V_append, V_append, List.append_assoc, ← e]
set_option maxHeartbeats 400000 in
theorem lent_any (a : Option Addr) (len cap : Nat) (zs : List Int) (w : World) (h : Arg w a len zs) (hl : len ≤ 140737488355000) :
    Calls Try.prog 24 #[.slice a len cap] w (RowPost 5 w (len + 5) (zs ++ marks)) := by
  have HC := hid (copy_own a len cap zs w h (by omega)); clear h
  obtain ⟨i0, hi, hz0, hz1, hz2⟩ := info_parts info8
  go_enter Try.func24, Try.ntmps24
  go_wp2_with fail
  refine HC.out.mono ?_
  rintro e w1 ⟨v, rfl, hown1, hbel1⟩
  have hst : w1.ownsRow w.heap.size 5 1 v (len + 0) (V (zs ++ marks.take 0)) := by simpa using hown1
  clear HC hown1
  have HST := hid hst; clear hst
  go_wp2
  go_loopw [3, 4] (fun v i wr => ∃ k : Nat, k ≤ 5 ∧ i = .int .i64 k ∧ wr.ownsRow w.heap.size 5 1 v (len + k) (V (zs ++ marks.take k)) ∧ Below w.heap.size w wr) (fun _ i _ => 5 - (intOf i).toNat)
  case atStart => exact ⟨0, Nat.zero_le _, rfl, HST.out, hbel1⟩
  case round =>
    obtain ⟨k, hk, rfl, hown, hbel⟩ := hrel
    by_cases hlt : k < 5
    · have hsn := marks_snoc zs k hlt
      have HS := hid hsn; clear hsn
      have hsz := hbel.size
      have b1 : (201 : Int) + 7 * (k : Int) ≤ 255 := by omega
      go_wp2_with fail
      refine (mark_any _ _ (by omega) (by omega)).mono ?_
      rintro e w' ⟨rfl, rfl⟩
      generalize (201 : Int) + 7 * (k : Int) = x at HS b1 ⊢
      go_wp2_with (at_builtin; refine wpList_append_own _ rfl _ _ 33 rfl w.heap.size 5 i0 (.int .u8 0) 1 1 Try.underlying33 hi hz0 hz1 hz2 rfl (by decide) _ _ _ rfl (hown.alloc _) ⟨wr.heap.size, 0, none⟩ 1 1 [.int .u8 x] rfl rfl ?c1 ?c2 ?c3 ?c4 ?c5 ?_)
      case c1 => exact cell_one_new _ _ _
      case c2 => intro u hu; simp at hu; subst hu; rfl
      case c3 => unfold maxLen; omega
      case c4 => omega
      case c5 => simp; omega
      intro v' w1 hown' hgrow _
      rw [HS.out] at hown'
      have hbel' : Below w.heap.size w w1 := (hbel.alloc hsz _).grown hgrow (by simp; omega) (fun q hq => (hown.alloc (.cells #[.int .u8 x] 5)).lt q hq |>.1)
      clear hgrow hown hbel
      go_wp2
      go_roundw
      case rel => exact ⟨k + 1, by omega, by go_num, hown', hbel'⟩
      case measure => simp [intOf]; omega
    · have hkk : k = 5 := by omega
      have hown2 := hown
      rw [hkk, List.take_of_length_le (by simp [marks])] at hown2
      clear hown
      go_wp2
      go_ret
      obtain ⟨g, c, rfl⟩ := own_shape hown2 (by omega)
      exact ⟨g, c, rfl, hown2, hbel⟩
theorem getD_left (a b : List Int) (j : Nat) (h : j < a.length) : (a ++ b).getD j 0 = a.getD j 0 := by rw [List.getD_eq_getElem?_getD, List.getD_eq_getElem?_getD, List.getElem?_append_left h]
theorem getD_right (a b : List Int) (j : Nat) : (a ++ b).getD (a.length + j) 0 = b.getD j 0 := by rw [List.getD_eq_getElem?_getD, List.getD_eq_getElem?_getD, List.getElem?_append_right (by omega), Nat.add_sub_cancel_left]
set_option maxHeartbeats 1000000 in
/-- What was lent is as it was. -/
theorem kept_any (a : Option Addr) (g c len cap : Nat) (zs : List Int) (w : World) (h : Arg w a len zs) (hl : len ≤ 140737488355000) (hc : len + 5 ≤ c)
    (hg : g < w.heap.size) (hcell : ∀ j, j < len + 5 → w.cell? ⟨g, j, none⟩ = some (.int .u8 ((zs ++ marks).getD j 0))) :
    Calls Try.prog 28 #[.slice (some ⟨g, 0, none⟩) (len + 5) c, .slice a len cap] w fun e w' => e = .returned (.bool true) ∧ Below w.heap.size w w' := by
  have hz := h.1
  have HS1 : Hid (Calls Try.prog 21 #[.slice (some ⟨g, 0, none⟩) len c, .slice a len cap] w (SamePost true w)) := hid (by
    by_cases h0 : 0 < len
    · obtain ⟨b, off, rfl, hb, hcb⟩ := h.2.2 h0
      have S := same_row g b 0 off len c cap zs zs w (by omega) hz hz (fun i hi => by rw [Nat.zero_add, hcell i (by omega), getD_left _ _ _ (by omega)]) hcb
      rw [show decide (zs = zs) = true by simp] at S
      exact S
    · obtain rfl : len = 0 := by omega
      exact same_empty _ _ _ _ _)
  have HM := hid (fun j (hj : j < 5) => (hcell (len + j) (by omega)).trans (by rw [← hz, getD_right]))
  clear hcell h hz
  obtain ⟨i0, hi, hz0, hz1, hz2⟩ := info_parts info8
  go_enter Try.func28, Try.ntmps28
  go_wp2_with fail
  refine HS1.out.mono ?_
  rintro e w1 ⟨rfl, n, rfl⟩
  go_wp2
  go_loopw [5, 6] (fun v i wr => ∃ k : Nat, k ≤ 5 ∧ i = .int .i64 k ∧ wr.ownsRow w.heap.size 5 1 v k (V (marks.take k)) ∧ Below w.heap.size w wr) (fun _ i _ => 5 - (intOf i).toNat)
  case atStart => exact ⟨0, Nat.zero_le _, rfl, World.ownsRow_nil _ _ _ _, below_drewN (Below.refl _ _) n⟩
  case round =>
    obtain ⟨k, hk, rfl, hown, hbel⟩ := hrel
    by_cases hlt : k < 5
    · have hsn := take_snoc marks k hlt
      rw [marks_get ⟨k, hlt⟩] at hsn
      simp only at hsn
      have HS := hid hsn; clear hsn
      have hsz := hbel.size
      have b1 : (201 : Int) + 7 * (k : Int) ≤ 255 := by omega
      go_wp2_with fail
      refine (mark_any _ _ (by omega) (by omega)).mono ?_
      rintro e w' ⟨rfl, rfl⟩
      generalize (201 : Int) + 7 * (k : Int) = x at HS b1 ⊢
      go_wp2_with (at_builtin; refine wpList_append_own _ rfl _ _ 33 rfl w.heap.size 5 i0 (.int .u8 0) 1 1 Try.underlying33 hi hz0 hz1 hz2 rfl (by decide) _ _ _ rfl (hown.alloc _) ⟨wr.heap.size, 0, none⟩ 1 1 [.int .u8 x] rfl rfl ?c1 ?c2 ?c3 ?c4 ?c5 ?_)
      case c1 => exact cell_one_new _ _ _
      case c2 => intro u hu; simp at hu; subst hu; rfl
      case c3 => unfold maxLen; omega
      case c4 => omega
      case c5 => simp; omega
      intro v' w1 hown' hgrow _
      rw [HS.out] at hown'
      have hbel' : Below w.heap.size w w1 := (hbel.alloc hsz _).grown hgrow (by simp; omega) (fun q hq => (hown.alloc (.cells #[.int .u8 x] 5)).lt q hq |>.1)
      clear hgrow hown hbel
      go_wp2
      go_roundw
      case rel => exact ⟨k + 1, by omega, by go_num, hown', hbel'⟩
      case measure => simp [intOf]; omega
    · have hkk : k = 5 := by omega
      have hown2 := hown
      rw [hkk, List.take_of_length_le (by simp [marks])] at hown2
      clear hown
      obtain ⟨g2, c2, rfl⟩ := own_shape hown2 (by omega)
      have hc2 : ∀ j, j < 5 → wr.cell? ⟨g2, 0 + j, none⟩ = some (.int .u8 (marks.getD j 0)) := fun j hj => by
        rw [Nat.zero_add, hown2.cellAt j (by omega)]; unfold V; rw [List.getElem?_map, List.getElem?_eq_getElem (show j < marks.length from hj)]; simp [List.getD_eq_getElem?_getD, marks, hj]
      have S := same_row g g2 len 0 5 (c - len) c2 marks marks wr (by omega) rfl rfl (fun j hj => (hbel.cell (show g < _ from hg)).trans (HM.out j hj)) hc2
      rw [show decide (marks = marks) = true by simp] at S
      have HS2 := hid S
      clear S hown2 hc2
      have cne : ¬ c = len := by omega
      go_wp2_with fail
      refine HS2.out.mono ?_
      rintro e w2 ⟨rfl, m, rfl⟩
      go_wp2
      go_ret
      exact ⟨rfl, below_drewN hbel m⟩
end Go.Proofs.Ytccjfnkneiggcaa.ListB
