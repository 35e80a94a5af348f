/-
  Contracts of the kit's lists of instructions: what is lent, looked at again, written over.
-/
import Derived.Test.YtpknnmnknaaccaaInsB
import Derived.Test.YtpknnmnknaaccaaLent
namespace Go.Proofs.Ytpknnmnknaaccaa.Insn
open Go.RowKit Go.Proofs.Ytpknnmnknaaccaa.Num Go.Proofs.Ytpknnmnknaaccaa.ListB
theorem grown_of2 {w w' : World} (h : Below w.heap.size w w') : w.grownBy w' none := ⟨h.os, h.tape, h.output, h.size, fun k hk _ => h.block k hk⟩
theorem own_shapeG {w : World} {base size : Nat} {T : TypeId} {v : Value} {n : Nat} {xs : List Value} (h : w.ownsRow base T size v n xs) (hn : 0 < n) : ∃ g cap, v = .slice (some ⟨g, 0, none⟩) n cap := by
  rcases h.2 with ⟨_, h0⟩ | ⟨g, cap, _, hv, _⟩
  · omega
  · exact ⟨g, cap, hv⟩
def markN (i : Int) : In := ⟨-9 - i, 0, 0, 0, 0⟩
def marksN : List In := [markN 0, markN 1, markN 2, markN 3, markN 4]
theorem marksN_get : ∀ k : Fin 5, marksN[k.val]? = some (markN (k.val : Int)) := by
  intro k
  match k with
  | ⟨0, _⟩ => rfl
  | ⟨1, _⟩ => rfl
  | ⟨2, _⟩ => rfl
  | ⟨3, _⟩ => rfl
  | ⟨4, _⟩ => rfl
theorem markN_any (i : Int) (w : World) (i0 : 0 ≤ i) (i1 : i ≤ 9223372036854775000) :
    Calls Try.prog 32 #[.int .i64 i] w fun e w' => e = .returned (.agg #[.int .i64 (-9 - i), .int .i64 0, .int .i64 0, .int .i64 0, .int .i64 0]) ∧ Below w.heap.size w w' := by
  go_enter Try.func32, Try.ntmps32
  go_wp2
  exact bodyPost_ret (v := .agg #[.int .i64 (-9 - i), .int .i64 0, .int .i64 0, .int .i64 0, .int .i64 0]) (by simp [results, Try.results32, go_sem]) rfl ⟨rfl, (Below.refl _ _).alloc (Nat.le_refl _) _⟩
theorem marksN_snoc (l : List In) (k : Nat) (h : k < 5) : VN (l ++ marksN.take k) ++ [.int .i64 (-9 - (k : Int)), .int .i64 0, .int .i64 0, .int .i64 0, .int .i64 0] = VN (l ++ marksN.take (k + 1)) := by
  have e := VN_snoc marksN k _ (marksN_get ⟨k, h⟩)
  rw [VN_append, VN_append, List.append_assoc, ← e]; rfl
def RowN (w : World) (len : Nat) (l : List In) (e : Ending) (w' : World) : Prop :=
  ∃ g cap, e = .returned (.slice (some ⟨g, 0, none⟩) len cap) ∧ w'.ownsRow w.heap.size 35 5 (.slice (some ⟨g, 0, none⟩) len cap) len (VN l) ∧ Below w.heap.size w w'
set_option maxHeartbeats 1000000 in
theorem lentN_any (a : Option Addr) (len cap : Nat) (l : List In) (w : World) (h : ArgN w a len l) (hl : len ≤ 3518437208000) :
    Calls Try.prog 10 #[.slice a len cap] w (RowN w (len + 5) (l ++ marksN)) := by
  have HC := hid (copyN_any a len cap l w h (by omega))
  have HZ := hid h.1
  clear h
  obtain ⟨i0, hi, hz0, hz1, hz2⟩ := info_parts infoIn
  go_enter Try.func10, Try.ntmps10
  go_wp2_with fail
  refine HC.out.mono ?_
  rintro e w1 ⟨v, rfl, hown1, hbel1⟩
  rw [HZ.out] at hown1
  have hst : w1.ownsRow w.heap.size 35 5 v (len + 0) (VN (l ++ marksN.take 0)) := by simpa using hown1
  clear HC hown1
  have HST := hid hst; clear hst
  go_wp2
  go_loopw [3, 4] (fun v i wr => ∃ k : Nat, k ≤ 5 ∧ i = .int .i64 k ∧ wr.ownsRow w.heap.size 35 5 v (len + k) (VN (l ++ marksN.take k)) ∧ Below w.heap.size w wr) (fun _ i _ => 5 - (intOf i).toNat)
  case atStart => exact ⟨0, Nat.zero_le _, rfl, HST.out, hbel1⟩
  case round =>
    obtain ⟨k, hk, rfl, hown, hbel⟩ := hrel
    by_cases hlt : k < 5
    · have HS := hid (marksN_snoc l k hlt)
      have hsz := hbel.size
      go_wp2_with fail
      refine (markN_any _ _ (by omega) (by omega)).mono ?_
      rintro e w2 ⟨rfl, hb2⟩
      have hown2 := hown.kept (grown_of2 hb2) (Classical.em _)
      have hbel2 : Below w.heap.size w w2 := hbel.trans (hb2.mono hsz)
      have hsz2 := hbel2.size
      clear hown hbel hb2 hsz
      generalize (-9 : Int) - (k : Int) = x at HS ⊢
      go_wp2_with (at_builtin; refine wpList_append_own _ rfl _ _ 22 rfl w.heap.size 35 i0 (.agg #[.int .i64 0, .int .i64 0, .int .i64 0, .int .i64 0, .int .i64 0]) 5 40 Try.underlying22 hi hz0 hz1 hz2 rfl (by decide) _ _ _ rfl (hown2.alloc _) ⟨w2.heap.size, 0, none⟩ 1 1 [.int .i64 x, .int .i64 0, .int .i64 0, .int .i64 0, .int .i64 0] rfl rfl ?c1 ?c2 ?c3 ?c4 ?c5 ?_)
      case c1 => exact five_new _ _ _ _ _ _ _
      case c2 => exact five_one _ _ _ _ _
      case c3 => unfold maxLen; omega
      case c4 => omega
      case c5 => simp; omega
      intro v' w3 hown' hgrow _
      rw [HS.out] at hown'
      have hbel' : Below w.heap.size w w3 := (hbel2.alloc hsz2 _).grown hgrow (by simp; omega) (fun q hq => (hown2.alloc (.cells #[.int .i64 x, .int .i64 0, .int .i64 0, .int .i64 0, .int .i64 0] 35)).lt q hq |>.1)
      clear hgrow hown2 hbel2
      go_wp2
      go_roundw
      case rel => exact ⟨k + 1, by omega, by go_num, hown', hbel'⟩
      case measure => simp [intOf]; omega
    · have hkk : k = 5 := by omega
      have hown2 := hown
      rw [hkk, List.take_of_length_le (by simp [marksN])] at hown2
      have HO := hid hown2
      clear hown hown2
      go_wp2
      go_ret
      obtain ⟨g, c, rfl⟩ := own_shapeG HO.out (show 0 < len + 5 by omega)
      exact ⟨g, c, rfl, HO.out, hbel⟩
end Go.Proofs.Ytpknnmnknaaccaa.Insn
