/-
  Contracts of flow's lists: numbers none of them twice, successors.
-/
import Derived.Test.YtpknnmnknaaccaaFlB
import Derived.Test.YtpknnmnknaaccaaDevOps
namespace Go.Proofs.Ytpknnmnknaaccaa.Flow
open Go.RowKit Go.Proofs.Ytpknnmnknaaccaa.Num Go.Proofs.Ytpknnmnknaaccaa.ListB Go.Proofs.Ytpknnmnknaaccaa.Insn
theorem contI_any (v : Value) (zs : List Int) (x : Int) (w : World) (hn : zs.length ≤ 9223372036854775807) (h : ArgI w v zs) :
    Calls Try.prog 34 #[v, .int .i64 x] w fun e w' => e = .returned (.bool (zs.contains x)) ∧ w' = w := by
  obtain ⟨a, c, rfl, hr⟩ := h
  by_cases h0 : 0 < zs.length
  · obtain ⟨b, off, rfl, _, hc⟩ := hr h0
    have := Shelf.slices_Contains_int b off zs.length c zs x w (Nat.le_refl _) hn hc
    rw [List.take_length] at this
    exact this
  · obtain rfl : zs = [] := List.length_eq_zero_iff.1 (by omega)
    exact Shelf.slices_Contains_int_empty a c x w
def dd1 (o : List Int) (z : Int) : List Int := if o.contains z then o else o ++ [z]
def ddS (zs : List Int) : List Int := zs.foldl dd1 []
theorem ddS_take (zs : List Int) (k : Nat) (h : k < zs.length) : ddS (zs.take (k + 1)) = dd1 (ddS (zs.take k)) (zs.getD k 0) := by
  unfold ddS; rw [take_one zs k h, List.foldl_append]; rfl
theorem dd1_le (o : List Int) (z : Int) : (dd1 o z).length ≤ o.length + 1 := by unfold dd1; split <;> simp
theorem ddS_le (zs : List Int) (k : Nat) (h : k ≤ zs.length) : (ddS (zs.take k)).length ≤ k := by
  induction k with
  | zero => simp [ddS]
  | succ k ih => rw [ddS_take zs k (by omega)]; have := dd1_le (ddS (zs.take k)) (zs.getD k 0); have := ih (by omega); omega
theorem own_as {w : World} {base : Nat} {v : Value} {a b : List Int} (h : w.ownsRow base 3 1 v a.length (VI a)) (e : a = b) : w.ownsRow base 3 1 v b.length (VI b) := e ▸ h
theorem VI_snoc (o : List Int) (z : Int) : VI o ++ [.int .i64 z] = VI (o ++ [z]) := by unfold VI; simp
set_option maxHeartbeats 2000000 in
theorem distinct_row (b off c : Nat) (zs : List Int) (w : World) (hn : zs.length ≤ 1000) (h0 : 0 < zs.length) (hb : b < w.heap.size) (hc : ∀ i, i < zs.length → w.cell? ⟨b, off + i, none⟩ = some (.int .i64 (zs.getD i 0))) :
    Calls Try.prog 43 #[.slice (some ⟨b, off, none⟩) zs.length c] w (OwnI w (ddS zs)) := by
  obtain ⟨i0, hi, hz0, hz1, hz2⟩ := info_parts infoInt
  have HC := hid hc
  have HS := hid (fun k (h : k < zs.length) => ddS_take zs k h)
  have HL := hid (fun k (h : k ≤ zs.length) => ddS_le zs k h)
  have HD := hid (show ddS (zs.take zs.length) = ddS zs by rw [List.take_length])
  clear hc
  unfold OwnI
  obtain ⟨n, hnn⟩ : ∃ n, zs.length = n := ⟨_, rfl⟩
  rw [hnn] at HC HS HL HD hn h0 ⊢
  have HN := hid hnn
  clear hnn
  go_enter Try.func43, Try.ntmps43
  go_wp2
  go_loopw [3, 8] (fun v i wr => ∃ k : Nat, k ≤ n ∧ i = .int .i64 k ∧ wr.ownsRow w.heap.size 3 1 v (ddS (zs.take k)).length (VI (ddS (zs.take k))) ∧ Below w.heap.size w wr) (fun _ i _ => n - (intOf i).toNat)
  case atStart => exact ⟨0, Nat.zero_le _, rfl, World.ownsRow_nil _ _ _ _, Below.refl _ _⟩
  case round =>
    obtain ⟨k, hk, rfl, hown, hbel⟩ := hrel
    by_cases hlt : k < n
    · have hck := (hbel.cell (show b < _ from hb)).trans (HC.out k hlt)
      have hsn := HS.out k hlt
      have hle := HL.out k (by omega)
      generalize zs.getD k 0 = x at hck hsn
      obtain ⟨D, hD⟩ : ∃ D, ddS (zs.take k) = D := ⟨_, rfl⟩
      rw [hD] at hsn hle hown
      have HCT := hid (contI_any _ D x wr (by omega) (own_argI hown))
      have HSN := hid hsn
      have HO := hid hown
      have HB := hid hbel
      have hsz := hbel.size
      clear hsn hD hown hbel
      cases hct : D.contains x
      · have hd : dd1 D x = D ++ [x] := by unfold dd1; rw [hct]; rfl
        rw [hd] at HSN
        rw [hct] at HCT
        clear hct hd
        go_wp2_with fail
        refine HCT.out.mono ?_
        rintro e w2 ⟨rfl, rfl⟩
        go_wp2_with (at_builtin; refine wpList_append_own _ rfl _ _ 26 rfl w.heap.size 3 i0 (.int .i64 0) 1 8 Try.underlying26 hi hz0 hz1 hz2 rfl (by decide) _ _ _ rfl (HO.out.alloc _) ⟨w2.heap.size, 0, none⟩ 1 1 [.int .i64 x] rfl rfl ?c1 ?c2 ?c3 ?c4 ?c5 ?_)
        case c1 => exact cell_one_new _ _ _
        case c2 => intro u hu; simp at hu; subst hu; rfl
        case c3 => unfold maxLen; omega
        case c4 => omega
        case c5 => simp; omega
        intro v' w1 hown' hgrow _
        have HO' := hid (show w1.ownsRow w.heap.size 3 1 v' (ddS (zs.take (k + 1))).length (VI (ddS (zs.take (k + 1)))) from by
          rw [HSN.out, List.length_append, List.length_singleton, ← VI_snoc]; exact hown')
        have HB' := hid ((HB.out.alloc hsz (.cells #[.int .i64 x] 3)).grown hgrow (by simp; omega) (fun q hq => (HO.out.alloc (.cells #[.int .i64 x] 3)).lt q hq |>.1))
        clear hgrow hown' hck
        go_wp2
        go_roundw
        case rel => exact ⟨k + 1, by omega, by go_num, HO'.out, HB'.out⟩
        case measure => simp [intOf]; omega
      · have hd : dd1 D x = D := by unfold dd1; rw [hct]; rfl
        rw [hd] at HSN
        rw [hct] at HCT
        clear hct hd
        have HO' := hid (own_as HO.out HSN.out.symm)
        go_wp2_with fail
        refine HCT.out.mono ?_
        rintro e w2 ⟨rfl, rfl⟩
        go_wp2_with fail
        go_roundw
        case rel => exact ⟨k + 1, by omega, by go_num, HO'.out, HB.out⟩
        case measure => simp [intOf]; omega
    · have hkn : k = n := by omega
      have hown2 := hown
      rw [hkn, HD.out] at hown2
      have HO := hid hown2
      have HB := hid hbel
      have hge : n ≤ k := by omega
      clear hown hown2 hkn hbel
      go_wp2
      go_ret
      exact ⟨_, rfl, HO.out, HB.out⟩
theorem distinct_nil (a : Option Addr) (c : Nat) (w : World) :
    Calls Try.prog 43 #[.slice a 0 c] w fun e w' => e = .returned (.slice none 0 0) ∧ w = w' := by
  go_enter Try.func43, Try.ntmps43
  go_wp2
  refine wp_loop_rounds 1 ?_
  rw [rounds_succ]
  go_wp2
  go_ret
  exact ⟨rfl, rfl⟩
theorem distinct_any (v : Value) (zs : List Int) (w : World) (hn : zs.length ≤ 1000) (h : ArgI w v zs) :
    Calls Try.prog 43 #[v] w (OwnI w (ddS zs)) := by
  obtain ⟨a, c, rfl, hr⟩ := h
  by_cases h0 : 0 < zs.length
  · obtain ⟨b, off, rfl, hb, hc⟩ := hr h0
    exact distinct_row b off c zs w hn h0 hb hc
  · obtain rfl : zs = [] := List.length_eq_zero_iff.1 (by omega)
    refine (distinct_nil a c w).mono ?_
    rintro e w' ⟨rfl, rfl⟩
    exact ⟨_, rfl, World.ownsRow_nil _ _ _ _, Below.refl _ _⟩
theorem argI_nil (w : World) : ArgI w (.slice none 0 0) [] := ⟨none, 0, rfl, fun h => absurd h (by simp)⟩
theorem argI_new1 (w : World) (T : TypeId) (x : Int) (k : Nat) (hk : w.heap.size = k) : ArgI (w.alloc (.cells #[.int .i64 x] T)) (.slice (some ⟨k, 0, none⟩) 1 1) [x] := by
  subst hk
  exact ⟨_, 1, rfl, fun _ => ⟨w.heap.size, 0, rfl, by simp, fun i hi => by
    obtain rfl : i = 0 := by simpa using hi
    simp⟩⟩
theorem argI_new2 (w : World) (T : TypeId) (x y : Int) (k : Nat) (hk : w.heap.size = k) : ArgI (w.alloc (.cells #[.int .i64 x, .int .i64 y] T)) (.slice (some ⟨k, 0, none⟩) 2 2) [x, y] := by
  subst hk
  exact ⟨_, 2, rfl, fun _ => ⟨w.heap.size, 0, rfl, by simp, fun i hi => by
    have hi' : i < 2 := by simpa using hi
    match i, hi' with
    | 0, _ => simp
    | 1, _ => simp⟩⟩
theorem OwnI.from {w w1 : World} {zs : List Int} {e : Ending} {w' : World} (h : OwnI w1 zs e w') (hb : Below w.heap.size w w1) : OwnI w zs e w' := by
  obtain ⟨v, he, ho, hb'⟩ := h
  exact ⟨v, he, ho.mono hb.size, hb.trans (hb'.mono hb.size)⟩
theorem ddS_two (i t : Int) : ddS [i, t] = if t = i then [i] else [i, t] := by
  unfold ddS dd1
  by_cases h : t = i
  · subst h; simp
  · simp [h]
theorem nxI_exit (i t : Int) : nxI 149 i t = [] := rfl
theorem nxI_always (i t : Int) : nxI 5 i t = [t] := rfl
theorem nxI_jump (op i t : Int) (h1 : op ≠ 149) (h2 : op ≠ 5) (h : jmpB op = true) : nxI op i t = ddS [i + 1, t] := by
  unfold nxI; rw [if_neg h1, if_neg h2, h, ddS_two]; rfl
theorem nxI_plain (op i t : Int) (h1 : op ≠ 149) (h2 : op ≠ 5) (h : jmpB op = false) : nxI op i t = ddS [i + 1] := by
  unfold nxI; rw [if_neg h1, if_neg h2, h]; rfl
end Go.Proofs.Ytpknnmnknaaccaa.Flow
