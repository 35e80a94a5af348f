/-
  The walk of the law WordBack where a number of 4 byte(s) fits.
-/
import Derived.Test.YtdkaccfombbdkaaLawF
namespace Go.Proofs.Ytdkaccfombbdkaa.Law
open Go.RowKit Go.Proofs.Ytdkaccfombbdkaa.Num Go.Proofs.Ytdkaccfombbdkaa.ListB Go.Proofs.Ytdkaccfombbdkaa.Bytes
set_option maxHeartbeats 2000000 in
theorem back_yes_4 (b off len cap n : Nat) (zs : List Int) (v : Int) (w : World) (hl : len ≤ 140737488355328) (hlc : len ≤ cap) (hcm : cap ≤ 9223372036854775807)
    (hz : zs.length = len) (hbd : ∀ i, 0 ≤ zs.getD i 0 ∧ zs.getD i 0 ≤ 255) (hb : b < w.heap.size) (hc : ∀ i, i < len → w.cell? ⟨b, off + i, none⟩ = some (.int .u8 (zs.getD i 0)))
    (hnm : n + 4 ≤ len) (v0 : 0 ≤ v) (_v1 : v ≤ 18446744073709551615) :
    Calls Try.prog 8 #[.slice (some ⟨b, off, none⟩) len cap, .int .i64 n, .int .i64 4, .int .u64 v] w fun e w' => e = .returned (.bool true) ∧ Below w.heap.size w w' := by
  have HF : Hid (fitsB len n 4 = true) := hid (by unfold fitsB; simp; omega)
  have hl2 : len ≤ 9223372036854775807 := by omega
  have hcopy := copy_row (some ⟨b, off, none⟩) len cap zs w ⟨hz, hbd, fun _ => ⟨b, off, rfl, hb, hc⟩⟩ (by omega) hl
  have HC := hid hcopy; clear hcopy
  have HZ := hid hz; have HBD := hid hbd; have HCE := hid hc
  clear hz hbd hc
  have t2 : (4 : Int) ≤ len := by omega
  have t3 : (n : Int) ≤ (len : Int) - 4 := by omega
  have PG := hid (put_got zs n v.toNat 4 (by rw [HZ.out]; omega))
  have EV : Hid (((v.toNat % 256 ^ 4 : Nat) : Int) = v % 4294967296) := hid (by rw [show 256 ^ 4 = 4294967296 from rfl]; omega)
  have PL := hid (putK_length zs n v.toNat 4)
  have PB := hid (putK_bd zs n v.toNat 4 (by rw [HZ.out]; omega) HBD.out)
  have PK := hid (fun j => putK_get zs n v.toNat 4 j (by rw [HZ.out]; omega))
  go_enter Try.func8, Try.ntmps8
  go_wp2_with fail
  refine HC.out.mono ?_
  rintro e w1 ⟨g, c, rfl, hown, hbel⟩
  have hgl := hown.lt g rfl
  go_wp2_with fail
  refine (put_yes w.heap.size g len c len c zs _ _ v w1 hl2 HZ.out (Nat.le_refl _) hown HF.out v0).mono ?_
  rintro e w2 ⟨rfl, hown2, hgr⟩
  have hbel2 : Below w.heap.size w w2 := hbel.grown hgr hbel.size (fun k hk => by cases hk; exact hgl.1)
  clear hgr hown hbel hgl
  rw [Int.toNat_natCast, show (4 : Int).toNat = 4 from rfl] at hown2
  generalize putK zs n v.toNat 4 = zt at hown2 PG PL PB PK
  have hc2 : ∀ j, j < len → w2.cell? ⟨g, 0 + j, none⟩ = some (.int .u8 (zt.getD j 0)) := fun j hj => own_cells hown2 (PL.out.trans HZ.out) j hj
  have hcb : ∀ j, j < len → w2.cell? ⟨b, off + j, none⟩ = some (.int .u8 (zs.getD j 0)) := fun j hj => (hbel2.cell (show b < _ from hb)).trans (HCE.out j hj)
  have HBS : BackS w g b off len zt zs w2 := ⟨hc2, hcb, hbel2⟩
  have hlc2 : len ≤ c := by
    rcases hown2.2 with ⟨h', _⟩ | ⟨g', c', cur, h', _, _, hle, _⟩
    · cases h'
    · cases h'; exact hle
  have hcm2 : c ≤ 9223372036854775807 := by
    rcases hown2.2 with ⟨h', _⟩ | ⟨g', c', cur, h', _, _, _, hle, _⟩
    · cases h'
    · cases h'; unfold maxLen at hle; omega
  clear hcb hown2 hbel2
  have HC2 := hid hc2; clear hc2
  go_wp2_with fail
  refine (get_yes g 0 len c zt _ _ w2 hl2 (PL.out.trans HZ.out) ⟨fun j hj => HC2.out j (by rw [PL.out, HZ.out] at hj; exact hj), PB.out⟩ HF.out).mono ?_
  rintro e w' ⟨rfl, rfl⟩
  rw [Int.toNat_natCast, show (4 : Int).toNat = 4 from rfl, PG.out, EV.out]
  have b1 : (0 : Int) ≤ (n : Int) := by omega
  have b2 : (n : Int) ≤ (c : Int) := by omega
  have b3 : (n : Int) ≤ (cap : Int) := by omega
  have b4 : (n : Int) + 4 ≤ (len : Int) := by omega
  have b5 : (len : Int) ≤ (c : Int) := by omega
  have b6 : (len : Int) ≤ (cap : Int) := by omega
  have w1 : IntKind.i64.wrap ((n : Int) + 4) = (n : Int) + 4 := IntWalk.i64_in _ (by omega)
  have w2 : (0 : Int) ≤ (n : Int) + 4 := by omega
  have w3 : ((n : Int) + 4).toNat = n + 4 := by omega
  by_cases heq : n + 4 < len
  · have cne : ¬ c = n + 4 := by omega
    have capne : ¬ cap = n + 4 := by omega
    go_wp2_with fail
    go_region_held3 (fun w' => BackS w g b off len zt zs w') (first | assumption | exact BackS.drew ‹_›)
      (first
        | (go_at_call 26; (with_reducible refine (same_head w g b off len n _ _ zt zs _ (by assumption) hl2 (PL.out.trans HZ.out) HZ.out (by omega) (fun j hj => by rw [PK.out j, if_neg (by omega)])).mono ?_); rintro e w' ⟨rfl, hS⟩)
        | (go_at_call 26; (with_reducible refine (same_part w g b off len (n + 4) (len - (n + 4)) _ _ zt zs _ (by assumption) hl2 (PL.out.trans HZ.out) HZ.out (by omega) (fun j hj _ => by rw [PK.out j, if_neg (by omega)])).mono ?_); rintro e w' ⟨rfl, hS⟩)
        | (go_at_call 12; refine (works_back w g b off len zt zs _ (by assumption) (by omega)).mono ?_; rintro e w' ⟨rfl, hS⟩))
    go_wp2
    go_ret
    exact ⟨rfl, hS.bel⟩
  · have l0 : len - (n + 4) = 0 := by omega
    have hc : (c = n + 4) = True ∨ (c = n + 4) = False := by by_cases h : c = n + 4 <;> simp [h]
    have hk : (cap = n + 4) = True ∨ (cap = n + 4) = False := by by_cases h : cap = n + 4 <;> simp [h]
    clear heq
    rcases hc with hc | hc <;> rcases hk with hk | hk
    all_goals
      go_wp2_with fail
      go_region_held3 (fun w' => BackS w g b off len zt zs w') (first | assumption | exact BackS.drew ‹_›)
        (first
          | (go_at_call 26; (with_reducible refine (same_head w g b off len n _ _ zt zs _ (by assumption) hl2 (PL.out.trans HZ.out) HZ.out (by omega) (fun j hj => by rw [PK.out j, if_neg (by omega)])).mono ?_); rintro e w' ⟨rfl, hS⟩)
          | (go_at_call 26; (with_reducible refine (same_none w g b off len _ _ _ _ zt zs _ (by assumption)).mono ?_); rintro e w' ⟨rfl, hS⟩)
          | (go_at_call 12; refine (works_back w g b off len zt zs _ (by assumption) (by omega)).mono ?_; rintro e w' ⟨rfl, hS⟩))
      go_wp2
      go_ret
      exact ⟨rfl, hS.bel⟩
end Go.Proofs.Ytdkaccfombbdkaa.Law
