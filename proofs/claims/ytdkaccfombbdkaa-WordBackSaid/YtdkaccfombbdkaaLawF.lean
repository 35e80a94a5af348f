/-
  The walk of the law WordBack: what is put is got, all else stays.
-/
import Derived.Test.YtdkaccfombbdkaaLawA
import Derived.Test.YtdkaccfombbdkaaPutA
import Derived.Test.YtdkaccfombbdkaaListB
import Derived.Deep.RegionHeld3
namespace Go.Proofs.Ytdkaccfombbdkaa.Law
open Go.RowKit Go.Proofs.Ytdkaccfombbdkaa.Num Go.Proofs.Ytdkaccfombbdkaa.ListB Go.Proofs.Ytdkaccfombbdkaa.Bytes
/-- A copy that is the same as what it is a copy of. -/
def CopyOf (a : Option Addr) (len cap : Nat) (w : World) (e : Ending) (w' : World) : Prop :=
  ∃ xa xc, e = .returned (.slice xa len xc) ∧ Below w.heap.size w w' ∧ Calls Try.prog 26 #[.slice xa len xc, .slice a len cap] w' (SamePost true w')
theorem own_cells {w : World} {base g N c : Nat} {zs : List Int} (h : w.ownsRow base 5 1 (.slice (some ⟨g, 0, none⟩) N c) N (V zs)) (hz : zs.length = N) (i : Nat) (hi : i < N) : w.cell? ⟨g, 0 + i, none⟩ = some (.int .u8 (zs.getD i 0)) := by
  rw [Nat.zero_add]; exact (h.cellAt i (by omega)).trans (V_get zs i (by omega))
theorem copy_of (a : Option Addr) (len cap : Nat) (zs : List Int) (w : World) (h : Arg w a len zs) (hl : len ≤ 140737488355328) :
    Calls Try.prog 25 #[.slice a len cap] w (CopyOf a len cap w) := by
  by_cases h0 : 0 < len
  · refine (copy_row a len cap zs w h h0 hl).mono ?_
    rintro e w' ⟨g, c, rfl, hown, hbel⟩
    obtain ⟨b, off, rfl, hb, hc⟩ := h.2.2 h0
    refine ⟨_, _, rfl, hbel, ?_⟩
    have S := same_row g b 0 off len c cap zs zs w' (by omega) h.1 h.1 (own_cells hown h.1) (fun i hi => (hbel.cell (show b < _ from hb)).trans (hc i hi))
    rw [show decide (zs = zs) = true by simp] at S
    exact S
  · have : len = 0 := by omega
    subst this
    refine (copy_nil a cap w).mono ?_
    rintro e w' ⟨rfl, rfl⟩
    exact ⟨_, _, rfl, Below.refl _ _, same_empty _ _ _ _ _⟩
set_option maxHeartbeats 2000000 in
theorem back_no_walk (a : Option Addr) (len cap : Nat) (i s v : Int) (w : World) (hl : len ≤ 140737488355328)
    (hcopy : Calls Try.prog 25 #[.slice a len cap] w (CopyOf a len cap w)) (h : fitsB len i s = false) :
    Calls Try.prog 8 #[.slice a len cap, .int .i64 i, .int .i64 s, .int .u64 v] w fun e w' => e = .returned (.bool true) ∧ Below w.heap.size w w' := by
  have HC := hid hcopy; clear hcopy
  have HF := hid h
  have hl2 : len ≤ 9223372036854775807 := by omega
  have key : ∀ z : Int, (z = 1 ∨ z = 2 ∨ z = 4 ∨ z = 8) → fitsB len i z = false → ¬ (0 ≤ i ∧ z ≤ len ∧ i ≤ len - z) := fun z hz hf hc => by
    rw [show fitsB len i z = true by unfold fitsB; simp; omega] at hf; cases hf
  by_cases hs : s = 1 ∨ s = 2 ∨ s = 4 ∨ s = 8
  · have k := key s hs h
    clear key h
    by_cases hi : 0 ≤ i
    · by_cases hsl : s ≤ len
      · rcases hs with rfl | rfl | rfl | rfl
        all_goals
          have d1 : decide (0 ≤ i) = true := by simpa using hi
          have g2 := hsl
          have k3 : (len : Int) - _ < i := Int.not_le.1 fun hc => k ⟨hi, hsl, hc⟩
          have d3 : decide (i ≤ (len : Int) - _) = false := decide_eq_false (Int.not_le.2 k3)
          clear k hsl
          go_enter Try.func8, Try.ntmps8
          go_wp2_with fail
          refine HC.out.mono ?_
          rintro e w1 ⟨xa, xc, rfl, hbel, hsame⟩
          have HS := hid hsame; clear hsame HC
          go_wp2_with fail
          refine (put_no _ _ _ _ _ _ _ hl2 HF.out).mono ?_
          rintro e w' ⟨rfl, rfl⟩
          go_wp2_with fail
          refine (get_no _ _ _ _ _ _ hl2 HF.out).mono ?_
          rintro e w' ⟨rfl, rfl⟩
          go_wp2_with fail
          refine HS.out.mono ?_
          rintro e w' ⟨rfl, n, rfl⟩
          go_wp2_with fail
          refine (works_any _).mono ?_
          rintro e w' ⟨rfl, hb⟩
          go_wp2
          go_ret
          exact ⟨rfl, (below_drewN hbel n).trans (hb.mono hbel.size)⟩
      · rcases hs with rfl | rfl | rfl | rfl
        all_goals
          have d1 : decide (0 ≤ i) = true := by simpa using hi
          have g2 : (len : Int) < _ := Int.not_le.1 hsl
          have d2 := decide_eq_false hsl
          clear k hsl
          go_enter Try.func8, Try.ntmps8
          go_wp2_with fail
          refine HC.out.mono ?_
          rintro e w1 ⟨xa, xc, rfl, hbel, hsame⟩
          have HS := hid hsame; clear hsame HC
          go_wp2_with fail
          refine (put_no _ _ _ _ _ _ _ hl2 HF.out).mono ?_
          rintro e w' ⟨rfl, rfl⟩
          go_wp2_with fail
          refine (get_no _ _ _ _ _ _ hl2 HF.out).mono ?_
          rintro e w' ⟨rfl, rfl⟩
          go_wp2_with fail
          refine HS.out.mono ?_
          rintro e w' ⟨rfl, n, rfl⟩
          go_wp2_with fail
          refine (works_any _).mono ?_
          rintro e w' ⟨rfl, hb⟩
          go_wp2
          go_ret
          exact ⟨rfl, (below_drewN hbel n).trans (hb.mono hbel.size)⟩
    · have d1 : decide (0 ≤ i) = false := by simpa using hi
      have g1 : i < 0 := by omega
      clear k hi
      rcases hs with rfl | rfl | rfl | rfl
      all_goals
        go_enter Try.func8, Try.ntmps8
        go_wp2_with fail
        refine HC.out.mono ?_
        rintro e w1 ⟨xa, xc, rfl, hbel, hsame⟩
        have HS := hid hsame; clear hsame HC
        go_wp2_with fail
        refine (put_no _ _ _ _ _ _ _ hl2 HF.out).mono ?_
        rintro e w' ⟨rfl, rfl⟩
        go_wp2_with fail
        refine (get_no _ _ _ _ _ _ hl2 HF.out).mono ?_
        rintro e w' ⟨rfl, rfl⟩
        go_wp2_with fail
        refine HS.out.mono ?_
        rintro e w' ⟨rfl, n, rfl⟩
        go_wp2_with fail
        refine (works_any _).mono ?_
        rintro e w' ⟨rfl, hb⟩
        go_wp2
        go_ret
        exact ⟨rfl, (below_drewN hbel n).trans (hb.mono hbel.size)⟩
  · have e1 : (s == 1) = false := by simp; omega
    have e2 : (s == 2) = false := by simp; omega
    have e4 : (s == 4) = false := by simp; omega
    have e8 : (s == 8) = false := by simp; omega
    clear hs key h
    go_enter Try.func8, Try.ntmps8
    go_wp2_with fail
    refine HC.out.mono ?_
    rintro e w1 ⟨xa, xc, rfl, hbel, hsame⟩
    have HS := hid hsame; clear hsame HC
    go_wp2_with fail
    refine (put_no _ _ _ _ _ _ _ hl2 HF.out).mono ?_
    rintro e w' ⟨rfl, rfl⟩
    go_wp2_with fail
    refine (get_no _ _ _ _ _ _ hl2 HF.out).mono ?_
    rintro e w' ⟨rfl, rfl⟩
    go_wp2_with fail
    refine HS.out.mono ?_
    rintro e w' ⟨rfl, n, rfl⟩
    go_wp2_with fail
    refine (works_any _).mono ?_
    rintro e w' ⟨rfl, hb⟩
    go_wp2
    go_ret
    exact ⟨rfl, (below_drewN hbel n).trans (hb.mono hbel.size)⟩
theorem put_got (zs : List Int) (n v m : Nat) (h : n + m ≤ zs.length) : leV (fun j => ((putK zs n v m).getD (n + j) 0).toNat) m = v % 256 ^ m := by
  rw [leV_ext _ (fun j => v / 256 ^ j % 256) m (fun j hj => by rw [putK_get zs n v m (n + j) h, if_pos (by omega), Int.toNat_natCast, show n + j - n = j by omega]), leV_bytes]
theorem getD_drop (zs : List Int) (k i : Nat) : (zs.drop k).getD i 0 = zs.getD (k + i) 0 := by simp [List.getD_eq_getElem?_getD]
theorem getD_take (zs : List Int) (k i : Nat) (h : i < k) : (zs.take k).getD i 0 = zs.getD i 0 := by simp [List.getD_eq_getElem?_getD, h]
/-- What holds from the put on: the bytes of the copy and of the slice that came in. -/
structure BackS (w : World) (g b off len : Nat) (zt zs : List Int) (w' : World) : Prop where
  one : ∀ j, j < len → w'.cell? ⟨g, 0 + j, none⟩ = some (.int .u8 (zt.getD j 0))
  two : ∀ j, j < len → w'.cell? ⟨b, off + j, none⟩ = some (.int .u8 (zs.getD j 0))
  bel : Below w.heap.size w w'
theorem BackS.drewN {w : World} {g b off len : Nat} {zt zs : List Int} {w' : World} (h : BackS w g b off len zt zs w') (n : Nat) : BackS w g b off len zt zs (w'.drewN n) :=
  ⟨h.one, h.two, below_drewN h.bel n⟩
theorem BackS.drew {w : World} {g b off len : Nat} {zt zs : List Int} {w' : World} (h : BackS w g b off len zt zs w') : BackS w g b off len zt zs w'.drew :=
  ⟨h.one, h.two, h.bel.drew⟩
theorem works_back (w : World) (g b off len : Nat) (zt zs : List Int) (w' : World) (h : BackS w g b off len zt zs w') (h0 : 0 < len) :
    Calls Try.prog 12 #[] w' fun e w'' => e = .returned (.bool true) ∧ BackS w g b off len zt zs w'' := by
  refine (works_any w').mono ?_
  rintro e w'' ⟨rfl, hb⟩
  have g1 : g < w'.heap.size := World.block_lt_of_cell? w' _ (h.one 0 h0)
  have g2 : b < w'.heap.size := World.block_lt_of_cell? w' _ (h.two 0 h0)
  exact ⟨rfl, fun j hj => (hb.cell (show g < _ from g1)).trans (h.one j hj), fun j hj => (hb.cell (show b < _ from g2)).trans (h.two j hj), h.bel.trans (hb.mono h.bel.size)⟩
theorem same_part (w : World) (g b off len d k cg cb : Nat) (zt zs : List Int) (w' : World) (h : BackS w g b off len zt zs w') (hl : len ≤ 9223372036854775807) (hz : zt.length = len) (hz' : zs.length = len) (hd : d + k ≤ len)
    (he : ∀ j, d ≤ j → j < d + k → zt.getD j 0 = zs.getD j 0) :
    Calls Try.prog 26 #[.slice (some ⟨g, d, none⟩) k cg, .slice (some ⟨b, off + d, none⟩) k cb] w' fun e w'' => e = .returned (.bool true) ∧ BackS w g b off len zt zs w'' := by
  have hlen : ∀ zq : List Int, zq.length = len → ((zq.drop d).take k).length = k := fun zq hq => by simp; omega
  have hg : ∀ (zq : List Int) j, j < k → ((zq.drop d).take k).getD j 0 = zq.getD (d + j) 0 := fun zq j hj => by rw [getD_take _ _ _ hj, getD_drop]
  have e : (zt.drop d).take k = (zs.drop d).take k := ext_list _ _ k (hlen zt hz) (hlen zs hz') (fun j hj => by rw [hg zt j hj, hg zs j hj]; exact he _ (by omega) (by omega))
  have S := same_row g b d (off + d) k cg cb ((zt.drop d).take k) ((zs.drop d).take k) w' (by omega) (hlen zt hz) (hlen zs hz')
    (fun j hj => by rw [hg zt j hj, ← h.one (d + j) (by omega)]; congr 2; omega)
    (fun j hj => by rw [hg zs j hj, ← h.two (d + j) (by omega)]; congr 2; omega)
  rw [decide_eq_true e] at S
  refine S.mono ?_
  rintro e' w'' ⟨rfl, n, rfl⟩
  exact ⟨rfl, h.drewN n⟩
theorem same_head (w : World) (g b off len k cg cb : Nat) (zt zs : List Int) (w' : World) (h : BackS w g b off len zt zs w') (hl : len ≤ 9223372036854775807) (hz : zt.length = len) (hz' : zs.length = len) (hd : k ≤ len)
    (he : ∀ j, j < k → zt.getD j 0 = zs.getD j 0) :
    Calls Try.prog 26 #[.slice (some ⟨g, 0, none⟩) k cg, .slice (some ⟨b, off, none⟩) k cb] w' fun e w'' => e = .returned (.bool true) ∧ BackS w g b off len zt zs w'' :=
  same_part w g b off len 0 k cg cb zt zs w' h hl hz hz' (by omega) (fun j _ hj => he j (by omega))
theorem same_none (w : World) (g b off len ca cb : Nat) (x y : Option Addr) (zt zs : List Int) (w' : World) (h : BackS w g b off len zt zs w') :
    Calls Try.prog 26 #[.slice x 0 ca, .slice y 0 cb] w' fun e w'' => e = .returned (.bool true) ∧ BackS w g b off len zt zs w'' := by
  refine (same_empty x y ca cb w').mono ?_
  rintro e' w'' ⟨rfl, n, rfl⟩
  exact ⟨rfl, h.drewN n⟩
end Go.Proofs.Ytdkaccfombbdkaa.Law
