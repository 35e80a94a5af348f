/-
  The walk of the law WordBytes: numbers are got of bytes, and put into them, as the document says.
-/
import Derived.Test.YtdkaccfombbdkaaLawA
import Derived.Test.YtdkaccfombbdkaaRefG
namespace Go.Proofs.Ytdkaccfombbdkaa.Law
open Go.RowKit Go.Proofs.Ytdkaccfombbdkaa.Num Go.Proofs.Ytdkaccfombbdkaa.ListB Go.Proofs.Ytdkaccfombbdkaa.Bytes Go.Proofs.Ytdkaccfombbdkaa.RefB
theorem own_cell {w : World} {base g N c : Nat} {zs : List Int} (h : w.ownsRow base 5 1 (.slice (some ⟨g, 0, none⟩) N c) N (V zs)) (hz : zs.length = N) (i : Nat) (hi : i < N) : w.cell? ⟨g, 0 + i, none⟩ = some (.int .u8 (zs.getD i 0)) := by
  rw [Nat.zero_add]; exact (h.cellAt i (by omega)).trans (V_get zs i (by omega))
theorem arg_to {w w' : World} {a : Option Addr} {len : Nat} {zs : List Int} (h : Arg w a len zs) (hb : Below w.heap.size w w') : Arg w' a len zs := by
  refine ⟨h.1, h.2.1, fun hl => ?_⟩
  obtain ⟨b, off, ha, hw, hc⟩ := h.2.2 hl
  exact ⟨b, off, ha, Nat.lt_of_lt_of_le hw hb.size, fun i hi => (hb.cell (show b < _ from hw)).trans (hc i hi)⟩
theorem own_arg {w : World} {base : Nat} {v : Value} {len : Nat} {zs : List Int} (h : w.ownsRow base 5 1 v len (V zs)) (hz : zs.length = len) (hb : ∀ i, 0 ≤ zs.getD i 0 ∧ zs.getD i 0 ≤ 255) :
    ∃ a cap, v = .slice a len cap ∧ Arg w a len zs := by
  rcases h.2 with ⟨rfl, rfl⟩ | ⟨g, cap, cur, rfl, _⟩
  · exact ⟨none, 0, rfl, hz, hb, fun h0 => absurd h0 (by omega)⟩
  · refine ⟨_, cap, rfl, hz, hb, fun h0 => ⟨g, 0, rfl, (h.lt g rfl).2, fun i hi => own_cell h hz i hi⟩⟩
theorem grown_of {w w' : World} (h : Below w.heap.size w w') : w.grownBy w' none := ⟨h.os, h.tape, h.output, h.size, fun k hk _ => h.block k hk⟩
theorem row_cap {w : World} {base g n c : Nat} {xs : List Value} (h : w.ownsRow base 5 1 (.slice (some ⟨g, 0, none⟩) n c) n xs) : n ≤ c ∧ c ≤ 9223372036854775807 := by
  rcases h.2 with ⟨h', _⟩ | ⟨g', c', cur, h', _, _, hle, hm, _⟩
  · cases h'
  · cases h'; unfold maxLen at hm; exact ⟨hle, by omega⟩
theorem putK_left (zs r : List Int) (n v m : Nat) (h : n + m ≤ zs.length) : putK (zs ++ r) n v m = putK zs n v m ++ r := by
  induction m with
  | zero => rfl
  | succ m ih =>
    simp only [putK]
    rw [ih (by omega), List.set_append_left _ _ (by rw [putK_length]; omega)]
set_option maxHeartbeats 2000000 in
theorem bytes_no (a : Option Addr) (len cap : Nat) (zs : List Int) (i s v : Int) (w : World) (h : Arg w a len zs) (hl : len ≤ 140737488355000) (hf : fitsB len i s = false) :
    Calls Try.prog 5 #[.slice a len cap, .int .i64 i, .int .i64 s, .int .u64 v] w fun e w' => e = .returned (.bool true) ∧ Below w.heap.size w w' := by
  have HF := hid hf; clear hf
  have HA := hid h
  have HL := hid (lent_any a len cap zs w h hl)
  have hl2 : len ≤ 9223372036854775807 := by omega
  clear h
  go_enter Try.func5, Try.ntmps5
  go_wp2_with fail
  refine HL.out.mono ?_
  rintro e w1 ⟨g, c, rfl, hown, hbel⟩
  have hcap := row_cap hown
  have c1 : len + 5 ≤ c := hcap.1
  have c2 : c ≤ 9223372036854775807 := hcap.2
  clear hcap
  have HO := hid hown; clear hown HL
  go_wp2_with fail
  refine (get_no _ _ _ _ _ _ hl2 HF.out).mono ?_
  rintro e w' ⟨rfl, rfl⟩
  go_wp2_with fail
  refine (rget_no _ _ _ _ _ _ hl2 HF.out).mono ?_
  rintro e w' ⟨rfl, rfl⟩
  have hg1 : g < w1.heap.size := (HO.out.lt g rfl).2
  have hzl : (zs ++ marks).length = len + 5 := by rw [List.length_append, HA.out.1]; rfl
  have hcell1 : ∀ j, j < len + 5 → w1.cell? ⟨g, j, none⟩ = some (.int .u8 ((zs ++ marks).getD j 0)) := fun j hj => by
    have := own_cell HO.out hzl j hj; rwa [Nat.zero_add] at this
  have HC1 := hid hcell1; clear hcell1 hzl
  go_wp2_with fail
  refine (kept_any a g c len cap zs w1 (arg_to HA.out hbel) hl c1 hg1 HC1.out).mono ?_
  rintro e w2 ⟨rfl, hb2⟩
  have hbel2 : Below w.heap.size w w2 := hbel.trans (hb2.mono hbel.size)
  go_wp2_with fail
  refine (rput_no a len cap zs i s v w2 (arg_to HA.out hbel2) (by omega) HF.out).mono ?_
  rintro e w3 ⟨u, rfl, hown3, hb3⟩
  obtain ⟨ua, uc, rfl, hu⟩ := own_arg hown3 HA.out.1 HA.out.2.1
  have hbel3 : Below w.heap.size w w3 := hbel2.trans (hb3.mono hbel2.size)
  have hc3 : Hid (∀ j, j < len + 5 → w3.cell? ⟨g, j, none⟩ = some (.int .u8 ((zs ++ marks).getD j 0))) := hid fun j hj => by
    rw [hb3.cell (show g < _ from Nat.lt_of_lt_of_le hg1 hb2.size), hb2.cell (show g < _ from hg1)]; exact HC1.out j hj
  have hg3 : g < w3.heap.size := Nat.lt_of_lt_of_le (Nat.lt_of_lt_of_le hg1 hb2.size) hb3.size
  have HU := hid hu
  clear hu hown3 hb3 hb2 HC1
  go_wp2_with fail
  refine (put_no _ _ _ _ _ _ _ hl2 HF.out).mono ?_
  rintro e w' ⟨rfl, rfl⟩
  go_wp2_with fail
  refine (kept_any ua g c len uc zs w3 HU.out hl c1 hg3 hc3.out).mono ?_
  rintro e w4 ⟨rfl, hb4⟩
  have hbel4 : Below w.heap.size w w4 := hbel3.trans (hb4.mono hbel3.size)
  go_wp2_with fail
  refine (works_any _).mono ?_
  rintro e w5 ⟨rfl, hb5⟩
  go_wp2
  go_ret
  exact ⟨rfl, hbel4.trans (hb5.mono hbel4.size)⟩
set_option maxHeartbeats 2000000 in
theorem bytes_yes (b off len cap n m : Nat) (zs : List Int) (v : Int) (w : World) (h : Arg w (some ⟨b, off, none⟩) len zs) (hl : len ≤ 140737488355000) (hf : fitsB len n m = true) (hnm : n + m ≤ len) (hm1 : 1 ≤ m) (hm8 : m ≤ 8) (v0 : 0 ≤ v) (v1 : v ≤ 18446744073709551615) :
    Calls Try.prog 5 #[.slice (some ⟨b, off, none⟩) len cap, .int .i64 n, .int .i64 m, .int .u64 v] w fun e w' => e = .returned (.bool true) ∧ Below w.heap.size w w' := by
  have HF := hid hf; clear hf
  have HA := hid h
  have HL := hid (lent_any (some ⟨b, off, none⟩) len cap zs w h hl)
  have hl2 : len ≤ 9223372036854775807 := by omega
  obtain ⟨b', off', hbo, hb, hcb⟩ := h.2.2 (by omega)
  cases hbo
  have HCB := hid hcb
  clear h hcb
  obtain ⟨q, hq⟩ : ∃ q, leV (fun j => (zs.getD ((n : Int).toNat + j) 0).toNat) (m : Int).toNat = q := ⟨_, rfl⟩
  have HQ := hid hq; clear hq
  go_enter Try.func5, Try.ntmps5
  go_wp2_with fail
  refine HL.out.mono ?_
  rintro e w1 ⟨g, c, rfl, hown, hbel⟩
  have hcap := row_cap hown
  have c1 : len + 5 ≤ c := hcap.1
  have c2 : c ≤ 9223372036854775807 := hcap.2
  clear hcap
  have HO := hid hown; clear hown HL
  have hg1 : g < w1.heap.size := (HO.out.lt g rfl).2
  have hgb : w.heap.size ≤ g := (HO.out.lt g rfl).1
  have hzl : (zs ++ marks).length = len + 5 := by rw [List.length_append, HA.out.1]; rfl
  have HZL := hid hzl; clear hzl
  have hcell1 : ∀ j, j < len + 5 → w1.cell? ⟨g, j, none⟩ = some (.int .u8 ((zs ++ marks).getD j 0)) := fun j hj => by
    have := own_cell HO.out HZL.out j hj; rwa [Nat.zero_add] at this
  have HC1 := hid hcell1; clear hcell1
  have hrow1 : Hid (Row w1 g 0 zs) := hid ⟨fun j hj => by
    rw [Nat.zero_add, HC1.out j (by rw [HA.out.1] at hj; omega), getD_left _ _ _ hj], HA.out.2.1⟩
  have hrowb : Hid (Row w1 b off zs) := hid ⟨fun j hj => (hbel.cell (show b < _ from hb)).trans (HCB.out j (by rw [HA.out.1] at hj; exact hj)), HA.out.2.1⟩
  go_wp2_with fail
  refine (get_yes g 0 len c zs _ _ w1 hl2 HA.out.1 hrow1.out HF.out).mono ?_
  rintro e w' ⟨rfl, rfl⟩
  rw [HQ.out]
  go_wp2_with fail
  refine (rget_yes b off len cap zs _ _ w1 hl2 HA.out.1 hrowb.out HF.out).mono ?_
  rintro e w' ⟨rfl, rfl⟩
  rw [HQ.out]
  go_wp2_with fail
  refine (kept_any (some ⟨b, off, none⟩) g c len cap zs w1 (arg_to HA.out hbel) hl c1 hg1 HC1.out).mono ?_
  rintro e w2 ⟨rfl, hb2⟩
  have hbel2 : Below w.heap.size w w2 := hbel.trans (hb2.mono hbel.size)
  have hcb2 : Hid (∀ j, j < len → w2.cell? ⟨b, off + j, none⟩ = some (.int .u8 (zs.getD j 0))) := hid fun j hj => (hbel2.cell (show b < _ from hb)).trans (HCB.out j hj)
  have hbw2 : b < w2.heap.size := Nat.lt_of_lt_of_le hb hbel2.size
  go_wp2_with fail
  refine (rput_yes b off len cap n m zs v w2 (arg_to HA.out hbel2) (by omega) hbw2 hcb2.out HF.out hnm hm8 v0 v1).mono ?_
  rintro e w3 ⟨u, rfl, hown3, hb3⟩
  have hlR : (putK zs n v.toNat m).length = len := (putK_length _ _ _ _).trans HA.out.1
  have hbR := putK_bd zs n v.toNat m (by rw [HA.out.1]; exact hnm) HA.out.2.1
  obtain ⟨ua, uc, rfl, hu⟩ := own_arg hown3 hlR hbR
  have hbel3 : Below w.heap.size w w3 := hbel2.trans (hb3.mono hbel2.size)
  have hg2 : g < w2.heap.size := Nat.lt_of_lt_of_le hg1 hb2.size
  have hg3 : g < w3.heap.size := Nat.lt_of_lt_of_le hg2 hb3.size
  have hO3 : Hid (w3.ownsRow w.heap.size 5 1 (.slice (some ⟨g, 0, none⟩) (len + 5) c) (len + 5) (V (zs ++ marks))) := hid ((HO.out.kept (grown_of hb2) (Or.inr (by simp [Value.ownBlock]))).kept (grown_of hb3) (Or.inr (by simp [Value.ownBlock])))
  have huB : Hid (∀ ub uo, ua = some ⟨ub, uo, none⟩ → ub ≠ g) := hid fun ub uo hua hug => by
    subst hua
    have := hown3.lt ub rfl
    omega
  have HU := hid hu
  have HLR := hid hlR
  have PKL := hid (putK_left zs marks n v.toNat m (by rw [HA.out.1]; exact hnm))
  clear hu hown3 hb3 hb2 HC1 hlR hbR
  go_wp2_with fail
  refine (put_yes w.heap.size g (len + 5) c len c (zs ++ marks) _ _ v w3 hl2 HZL.out (by omega) hO3.out HF.out v0).mono ?_
  rintro e w4 ⟨rfl, hown4, hgr4⟩
  rw [Int.toNat_natCast, Int.toNat_natCast, PKL.out] at hown4
  generalize putK zs n v.toNat m = R at HU HLR PKL hown4
  have hRl : (R ++ marks).length = len + 5 := by rw [List.length_append, HLR.out]; rfl
  have hc4 : Hid (∀ j, j < len + 5 → w4.cell? ⟨g, j, none⟩ = some (.int .u8 ((R ++ marks).getD j 0))) := hid fun j hj => by
    have := own_cell hown4 hRl j hj; rwa [Nat.zero_add] at this
  have hg4 : g < w4.heap.size := (hown4.lt g rfl).2
  have hU4 : Hid (Arg w4 ua len R) := hid ⟨HU.out.1, HU.out.2.1, fun h0 => by
    obtain ⟨ub, uo, hua, hub, huc⟩ := HU.out.2.2 h0
    have hne := huB.out ub uo hua
    refine ⟨ub, uo, hua, Nat.lt_of_lt_of_le hub hgr4.size, fun j hj => ?_⟩
    exact hgr4.cell (huc j hj) (by simp; exact hne)⟩
  have hbel4 : Below w.heap.size w w4 := hbel3.grown hgr4 hbel3.size (fun k hk => by cases hk; exact hgb)
  clear hgr4 hown4 hRl
  go_wp2_with fail
  refine (kept_any ua g c len uc R w4 hU4.out hl c1 hg4 hc4.out).mono ?_
  rintro e w5 ⟨rfl, hb5⟩
  have hbel5 : Below w.heap.size w w5 := hbel4.trans (hb5.mono hbel4.size)
  go_wp2_with fail
  refine (works_any _).mono ?_
  rintro e w6 ⟨rfl, hb6⟩
  go_wp2
  go_ret
  exact ⟨rfl, hbel5.trans (hb6.mono hbel5.size)⟩
theorem wordBytes (a : Option Addr) (len cap : Nat) (zs : List Int) (i s v : Int) (w : World) (h : Arg w a len zs) (hl : len ≤ 140737488355000) (v0 : 0 ≤ v) (v1 : v ≤ 18446744073709551615) :
    Calls Try.prog 5 #[.slice a len cap, .int .i64 i, .int .i64 s, .int .u64 v] w fun e w' => e = .returned (.bool true) ∧ Below w.heap.size w w' := by
  cases hf : fitsB len i s
  · exact bytes_no a len cap zs i s v w h hl hf
  · obtain ⟨hs, i0, i1⟩ := fitsB_size hf
    obtain ⟨n, rfl⟩ := Int.eq_ofNat_of_zero_le i0
    obtain ⟨m, rfl⟩ := Int.eq_ofNat_of_zero_le (show 0 ≤ s by omega)
    obtain ⟨b, off, rfl, hb, hc⟩ := h.2.2 (by omega)
    exact bytes_yes b off len cap n m zs v w h hl hf (by omega) (by omega) (by omega) v0 v1
end Go.Proofs.Ytdkaccfombbdkaa.Law
