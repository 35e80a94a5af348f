/-
  The walk of the law InsnGets: bytes are the instructions that the document says, in new memory; told that the document's Get answers 'getR' (RGet).
-/
import Derived.Test.YtccjfnkneiggcaaLawPuts
import Derived.Test.YtccjfnkneiggcaaLawAgain
namespace Go.Proofs.Ytccjfnkneiggcaa.Insn
open Go.RowKit Go.Proofs.Ytccjfnkneiggcaa.Num Go.Proofs.Ytccjfnkneiggcaa.ListB
/-- What the document's Get is asked to answer. -/
def RGet : Prop := ∀ (a : Option Addr) (len cap : Nat) (zs : List Int) (w : World), Arg w a len zs → len ≤ cap → len ≤ 8192 → cap ≤ 9223372036854775807 → Calls Try.prog 26 #[.slice a len cap] w (GetPost w (getR zs))
theorem getT_len : ∀ (f : Nat) (acc : List In) (zs : List Int), acc.length ≤ 256 → (getT f acc zs).1.length ≤ 256 := by
  intro f
  induction f with
  | zero => intro acc zs h; unfold getT; exact h
  | succ f ih =>
    intro acc zs h
    by_cases hz : zs = []
    · rw [getT_end _ _ _ hz]; exact h
    · by_cases ha : acc.length = 256
      · rw [getT_many _ _ _ hz ha]; simp
      · by_cases he : errFirst zs = 0
        · rw [getT_step _ _ _ hz ha he]
          exact ih _ _ (by rw [List.length_append]; simp only [List.length_cons, List.length_nil]; omega)
        · rw [getT_err _ _ _ hz ha he]; simp
theorem getR_len (zs : List Int) : (getR zs).1.length ≤ 256 := getT_len _ _ _ (by simp)
theorem arg_left {w : World} {g n c base : Nat} {zs ms : List Int} (h : w.ownsRow base 5 1 (.slice (some ⟨g, 0, none⟩) n c) n (V (zs ++ ms))) (hb : ∀ i, 0 ≤ zs.getD i 0 ∧ zs.getD i 0 ≤ 255) (hg : g < w.heap.size) (len : Nat) (hl : zs.length = len) : Arg w (some ⟨g, 0, none⟩) len zs := by
  have hn : (zs ++ ms).length = n := by have := h.1; unfold V at this; simpa using this
  refine ⟨hl, hb, fun h0 => ⟨g, 0, rfl, hg, fun i hi => ?_⟩⟩
  rw [own_cellB h i (by rw [← hn, List.length_append]; omega), getD_left _ _ _ (by omega)]
theorem gets_many (a : Option Addr) (len cap : Nat) (w : World) (hl : 8192 < len) :
    Calls Try.prog 5 #[.slice a len cap] w fun e w' => e = .returned (.bool true) ∧ Below w.heap.size w w' := by
  have hd : decide ((8192 : Int) < (len : Int)) = true := by simp; omega
  go_enter Try.func5, Try.ntmps5
  go_wp2_with fail
  refine (known_any _).mono ?_
  rintro e w1 ⟨rfl, hb⟩
  go_wp2_with fail
  go_ret
  exact ⟨rfl, hb⟩
set_option maxHeartbeats 4000000 in
theorem gets_few (HRG : Hid RGet) (a : Option Addr) (len cap : Nat) (zs : List Int) (w : World) (h : Arg w a len zs) (hc : len ≤ cap) (hm : cap ≤ 9223372036854775807) (hl : len ≤ 8192) :
    Calls Try.prog 5 #[.slice a len cap] w fun e w' => e = .returned (.bool true) ∧ Below w.heap.size w w' := by
  have hd : decide ((8192 : Int) < (len : Int)) = false := by simp; omega
  have HA := hid h
  have HL := hid (lent_any a len cap zs w h (by omega))
  unfold RowPost at HL
  have HGL := hid (getR_len zs)
  have HGP := hid (fun w' => HRG.out a len cap zs w')
  have HGD := hid (fun (a' : Option Addr) (c' : Nat) (w' : World) => dget_any a' len c' zs w')
  unfold GetPost at HGP HGD
  obtain ⟨R, hR⟩ : ∃ R, getR zs = R := ⟨_, rfl⟩
  rw [hR] at HGL
  simp only [hR] at HGP HGD
  clear hR h
  obtain ⟨l, er⟩ := R
  simp only at HGL HGP HGD
  go_enter Try.func5, Try.ntmps5
  go_wp2_with fail
  refine HL.out.mono ?_
  rintro e w1 ⟨g, c, rfl, hown1, hb1⟩
  have hcap : len + 5 ≤ c ∧ c ≤ 9223372036854775807 := by
    rcases hown1.2 with ⟨h', _⟩ | ⟨g', c', cur, h', _, _, hle, hm', _⟩
    · cases h'
    · cases h'; unfold maxLen at hm'; exact ⟨hle, by omega⟩
  have c1 : len + 5 ≤ c := hcap.1
  have c2 : c ≤ 9223372036854775807 := hcap.2
  have HO1 := hid hown1
  have HB1 := hid hb1
  have hg1 := hown1.lt g rfl
  have hs1 := hb1.size
  have HAL := hid (arg_left hown1 HA.out.2.1 hg1.2 len HA.out.1)
  clear hcap hown1 hb1 HL
  go_wp2_with fail
  refine (HGD.out _ _ w1 HAL.out (by omega) c2).mono ?_
  rintro e w2 ⟨v1, rfl, hown2, hb2⟩
  have HO2 := hid hown2
  have HB2 := hid hb2
  have hs2 := hb2.size
  clear hown2 hb2
  go_wp2_with fail
  have HB02 := hid (HB1.out.trans (HB2.out.mono hs1))
  refine (HGP.out w2 (arg_below HA.out HB02.out) hc hl hm).mono ?_
  rintro e w3 ⟨v2, rfl, hown3, hb3⟩
  have HO3 := hid hown3
  have HB3 := hid hb3
  have hs3 := hb3.size
  have hv1 : ∀ k, v1.ownBlock = some k → w1.heap.size ≤ k ∧ k < w2.heap.size := HO2.out.lt
  clear hown3 hb3
  have hll := HGL.out
  have HO2' := hid (HO2.out.kept (grown_of2 HB3.out) (Classical.em _))
  have HS1 := hid (sameN_own _ _ l.length v1 v2 l w3 (by omega) HO2'.out HO3.out)
  go_wp2_with fail
  refine HS1.out.mono ?_
  rintro e w4 ⟨rfl, m, rfl⟩
  have HB03 := hid (HB1.out.trans ((HB2.out.trans (HB3.out.mono hs2)).mono hs1))
  have HO13 := hid ((HO1.out.kept (grown_of2 HB2.out) (Classical.em _)).kept (grown_of2 HB3.out) (Classical.em _))
  have HK := hid (kept_any a g c len cap zs (w3.drewN m) (arg_below HA.out (ListB.below_drewN HB03.out m)) (by omega) c1 (show g < w3.heap.size by omega) (fun j hj => by have t := own_cellB HO13.out j hj; rw [Nat.zero_add] at t; exact t))
  go_wp2_with fail
  refine HK.out.mono ?_
  rintro e w5 ⟨rfl, hb5⟩
  have hb5' : Below w3.heap.size w3 w5 := ⟨hb5.os, hb5.tape, hb5.output, hb5.size, hb5.block⟩
  have HB5 := hid hb5'
  have hs5 : w3.heap.size ≤ w5.heap.size := hb5'.size
  have HO25 := hid (HO2'.out.kept (grown_of2 hb5') (Classical.em _))
  have HO35 := hid (HO3.out.kept (grown_of2 hb5') (Classical.em _))
  clear hb5 hb5'
  go_wp2_with fail
  refine (spoilN_any _ l.length v1 _ w5 (by omega) HO25.out).mono ?_
  rintro e w6 ⟨rfl, hg6⟩
  have hne : v2.ownBlock = none ∨ v2.ownBlock ≠ v1.ownBlock := by
    cases h2 : v2.ownBlock with
    | none => exact Or.inl rfl
    | some k =>
      right
      intro e
      have := (HO3.out.lt k h2).1
      have := (hv1 k e.symm).2
      omega
  have HO36 := hid (HO35.out.kept hg6 hne)
  have HB6 := hid ((HB03.out.trans (HB5.out.mono (by omega))).grown hg6 (by omega) (fun k hk => by have := (hv1 k hk).1; omega))
  have hs6 := hg6.size
  clear hg6 hne
  go_wp2_with fail
  refine (HGD.out _ _ w6 (arg_below HA.out HB6.out) hc hm).mono ?_
  rintro e w7 ⟨v3, rfl, hown7, hb7⟩
  have HO7 := hid hown7
  have HB7 := hid (HB6.out.trans (hb7.mono (by omega)))
  have HO37 := hid (HO36.out.kept (grown_of2 hb7) (Classical.em _))
  clear hown7 hb7
  have HS7 := hid (sameN_own _ _ l.length v3 v2 l w7 (by omega) HO7.out HO37.out)
  go_wp2_with fail
  refine HS7.out.mono ?_
  rintro e w8 ⟨rfl, m2, rfl⟩
  go_wp2_with fail
  refine (known_any _).mono ?_
  rintro e w9 ⟨rfl, hb9⟩
  have HB9 := hid ((ListB.below_drewN HB7.out m2).trans (hb9.mono (show w.heap.size ≤ w7.heap.size from HB7.out.size)))
  clear hb9
  go_wp2_with fail
  go_ret
  exact ⟨rfl, HB9.out⟩
theorem insnGets (HRG : RGet) (a : Option Addr) (len cap : Nat) (zs : List Int) (w : World) (h : Arg w a len zs) (hc : len ≤ cap) (hm : cap ≤ 9223372036854775807) :
    Calls Try.prog 5 #[.slice a len cap] w fun e w' => e = .returned (.bool true) ∧ Below w.heap.size w w' := by
  by_cases h0 : 8192 < len
  · exact gets_many a len cap w h0
  · exact gets_few (hid HRG) a len cap zs w h hc hm (by omega)
end Go.Proofs.Ytccjfnkneiggcaa.Insn
