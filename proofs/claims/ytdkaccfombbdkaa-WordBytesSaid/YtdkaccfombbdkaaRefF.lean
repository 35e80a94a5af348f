/-
  Contracts of the document's answers for bytes: Put.
-/
import Derived.Test.YtdkaccfombbdkaaRefE
import Derived.Test.YtdkaccfombbdkaaLent
namespace Go.Proofs.Ytdkaccfombbdkaa.RefB
open Go.RowKit Go.Proofs.Ytdkaccfombbdkaa.Num Go.Proofs.Ytdkaccfombbdkaa.ListB Go.Proofs.Ytdkaccfombbdkaa.Bytes
/-- A list of bytes that is the call's own, and whether all went well. -/
def PutPost (w : World) (len : Nat) (zs : List Int) (ok : Bool) (e : Ending) (w' : World) : Prop :=
  ∃ v, e = .returned (.tuple #[v, .bool ok]) ∧ w'.ownsRow w.heap.size 5 1 v len (V zs) ∧ Below w.heap.size w w'
set_option maxHeartbeats 1000000 in
theorem rput_no (a : Option Addr) (len cap : Nat) (zs : List Int) (i s v : Int) (w : World) (h : Arg w a len zs) (hl : len ≤ 140737488355328) (hf : fitsB len i s = false) :
    Calls Try.prog 21 #[.slice a len cap, .int .i64 i, .int .i64 s, .int .u64 v] w (PutPost w len zs false) := by
  have H := there_any a len cap i s w (by omega)
  rw [hf] at H
  have K := hid H; clear H hf
  obtain ⟨i0, hi, hz0, hz1, hz2⟩ := info_parts info8
  have HZ := hid h.1
  have HA := hid h
  by_cases h0 : 0 < len
  · obtain ⟨b, off, rfl, hb, hc⟩ := h.2.2 h0
    have HC := hid hc
    clear hc h
    go_enter Try.func21, Try.ntmps21
    go_wp2_with fail
    refine K.out.mono ?_
    rintro e w' ⟨rfl, rfl⟩
    go_wp2
    go_loopw [10, 12, 13] (fun o i _ wr => ∃ k : Nat, k ≤ len ∧ i = .int .i64 k ∧ wr.ownsRow w.heap.size 5 1 o k (V (zs.take k)) ∧ Below w.heap.size w wr) (fun _ i _ _ => len - (intOf i).toNat)
    case atStart => exact ⟨0, Nat.zero_le _, rfl, World.ownsRow_nil _ _ _ _, Below.refl _ _⟩
    case round =>
      obtain ⟨k, hk, rfl, hown, hbel⟩ := hrel
      by_cases hlt : k < len
      · have hck := (hbel.cell (show b < _ from hb)).trans (HC.out k hlt)
        have hsn := take_snoc zs k (by rw [HZ.out]; exact hlt)
        generalize zs.getD k 0 = x at hck hsn
        have HS := hid hsn; clear hsn
        have hsz := hbel.size
        go_wp2_with (at_builtin; refine wpList_append_own _ rfl _ _ 30 rfl w.heap.size 5 i0 (.int .u8 0) 1 1 Try.underlying30 hi hz0 hz1 hz2 rfl (by decide) _ _ _ rfl (hown.alloc _) ⟨wr.heap.size, 0, none⟩ 1 1 [.int .u8 x] rfl rfl ?c1 ?c2 ?c3 ?c4 ?c5 ?_)
        case c1 => exact cell_one_new _ _ _
        case c2 => intro u hu; simp at hu; subst hu; rfl
        case c3 => unfold maxLen; omega
        case c4 => omega
        case c5 => simp; omega
        intro v' w1 hown' hgrow _
        rw [HS.out] at hown'
        have hbel' : Below w.heap.size w w1 := (hbel.alloc hsz _).grown hgrow (by simp; omega) (fun q hq => (hown.alloc (.cells #[.int .u8 x] 5)).lt q hq |>.1)
        clear hgrow hown hck hbel
        go_wp2
        go_roundw
        case rel => exact ⟨k + 1, by omega, by go_num, hown', hbel'⟩
        case measure => simp [intOf]; omega
      · have hkk : k = len := by omega
        have hown2 := hown
        rw [hkk, List.take_of_length_le (by rw [HZ.out]; omega)] at hown2
        clear hown
        have hge : len ≤ k := by omega
        clear hkk hlt
        go_wp2
        go_ret2
        exact ⟨_, rfl, hown2, hbel⟩
  · obtain rfl : len = 0 := by omega
    obtain rfl : zs = [] := List.length_eq_zero_iff.1 h.1
    clear h HA HZ
    go_enter Try.func21, Try.ntmps21
    go_wp2_with fail
    refine K.out.mono ?_
    rintro e w' ⟨rfl, rfl⟩
    go_wp2
    refine wp_loop_rounds 1 ?_
    rw [rounds_succ]
    go_wp2
    go_ret2
    exact ⟨_, rfl, World.ownsRow_nil _ _ _ _, Below.refl _ _⟩
end Go.Proofs.Ytdkaccfombbdkaa.RefB
