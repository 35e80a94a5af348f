/-
  The walk of the law InsnPuts: instructions have the bytes that the document says, in new memory.
-/
import Derived.Test.YtccjfnkneiggcaaSpoil
namespace Go.Proofs.Ytccjfnkneiggcaa.Insn
open Go.RowKit Go.Proofs.Ytccjfnkneiggcaa.Num Go.Proofs.Ytccjfnkneiggcaa.ListB
theorem putL_le (l : List In) : (putL l).length ≤ 4096 := by
  unfold putL
  split
  · rename_i h
    unfold putErr at h
    split at h
    · omega
    · have := enc_le l; omega
  · simp
theorem row_capN {w : World} {base g n c : Nat} {xs : List Value} (h : w.ownsRow base 23 5 (.slice (some ⟨g, 0, none⟩) n c) n xs) : n ≤ c ∧ c ≤ 9223372036854775807 := by
  rcases h.2 with ⟨h', _⟩ | ⟨g', c', cur, h', _, _, hle, hm, _⟩
  · cases h'
  · cases h'; unfold maxLen at hm; exact ⟨hle, by omega⟩
theorem puts_many (a : Option Addr) (len cap : Nat) (w : World) (hl : 300 < len) (hl2 : len ≤ 9223372036854775807) :
    Calls Try.prog 4 #[.slice a len cap] w fun e w' => e = .returned (.bool true) ∧ Below w.heap.size w w' := by
  go_enter Try.func4, Try.ntmps4
  go_wp2_with fail
  refine (known_any _).mono ?_
  rintro e w1 ⟨rfl, hb⟩
  go_wp2_with fail
  go_ret
  exact ⟨rfl, hb⟩
set_option maxHeartbeats 4000000 in
theorem puts_few (a : Option Addr) (len cap : Nat) (l : List In) (w : World) (h : ArgN w a len l) (hwf : WfL l) (hl : len ≤ 300) :
    Calls Try.prog 4 #[.slice a len cap] w fun e w' => e = .returned (.bool true) ∧ Below w.heap.size w w' := by
  have HA := hid h
  have HW := hid hwf
  have HL := hid (lentN_any a len cap l w h (by omega))
  have HLE := hid (putL_le l)
  obtain ⟨er, her⟩ : ∃ er, putErr l = er := ⟨_, rfl⟩
  have HER := hid her
  obtain ⟨bs, hbs⟩ : ∃ bs, putL l = bs := ⟨_, rfl⟩
  have HBS := hid hbs
  clear h hwf her hbs
  go_enter Try.func4, Try.ntmps4
  go_wp2_with fail
  refine HL.out.mono ?_
  rintro e w1 ⟨g, c, rfl, hown1, hb1⟩
  have hcap := row_capN hown1
  have c1 : len + 5 ≤ c := hcap.1
  have c2 : c ≤ 9223372036854775807 := hcap.2
  have HO1 := hid hown1
  have HB1 := hid hb1
  have hg1 := hown1.lt g rfl
  have hs1 := hb1.size
  clear hcap hown1 hb1 HL
  go_wp2_with fail
  refine (dput_any (some ⟨g, 0, none⟩) len c l w1 ⟨HA.out.1, fun _ => ⟨g, 0, rfl, hg1.2, nrow_left (nrow_own HO1.out)⟩⟩ (by omega) HW.out).mono ?_
  rintro e w2 ⟨v1, rfl, hown2, hb2⟩
  rw [HER.out]
  rw [HBS.out] at hown2
  have HO2 := hid hown2
  have HB2 := hid hb2
  have hs2 := hb2.size
  clear hown2 hb2
  go_wp2_with fail
  refine (rput_any a len cap l w2 ((HA.out.up HB1.out).up (HB2.out)) (by omega)).mono ?_
  rintro e w3 ⟨v2, rfl, hown3, hb3⟩
  rw [HER.out]
  rw [HBS.out] at hown3
  have HO3 := hid hown3
  have HB3 := hid hb3
  have hs3 := hb3.size
  have hv1 : ∀ k, v1.ownBlock = some k → w1.heap.size ≤ k ∧ k < w2.heap.size := HO2.out.lt
  clear hown3 hb3
  have HO2' := hid (HO2.out.kept (grown_of2 HB3.out) (Classical.em _))
  have hble : bs.length ≤ 4096 := by rw [← HBS.out]; exact HLE.out
  have HS1 := hid (sameB_own _ _ bs.length v1 v2 bs w3 (by omega) HO2'.out HO3.out)
  go_wp2_with fail
  refine HS1.out.mono ?_
  rintro e w4 ⟨rfl, m, rfl⟩
  have HB03 := hid (HB1.out.trans ((HB2.out.trans (HB3.out.mono hs2)).mono hs1))
  have hr3 := (nrow_own HO1.out).below (HB2.out.trans (HB3.out.mono hs2)) hg1.2
  have HK := hid (keptN_any a g c len cap l (w3.drewN m) (HA.out.up (ListB.below_drewN HB03.out m)) (by omega) c1 (show g < w3.heap.size by omega) hr3)
  clear hr3
  go_wp2_with fail
  refine HK.out.mono ?_
  rintro e w5 ⟨rfl, hb5⟩
  have hb5' : Below w3.heap.size w3 w5 := ⟨hb5.os, hb5.tape, hb5.output, hb5.size, hb5.block⟩
  have HB5 := hid hb5'
  have hs5 : w3.heap.size ≤ w5.heap.size := hb5'.size
  have HO25 := hid (HO2'.out.kept (grown_of2 hb5') (Classical.em _))
  have HO35 := hid (HO3.out.kept (grown_of2 hb5') (Classical.em _))
  clear hb5 hb5'
  go_wp2_with fail
  refine (spoilB_any _ bs.length v1 _ w5 (by omega) HO25.out).mono ?_
  rintro e w6 ⟨rfl, hg6⟩
  have hne : v2.ownBlock = none ∨ v2.ownBlock ≠ v1.ownBlock := by
    cases h2 : v2.ownBlock with
    | none => exact Or.inl rfl
    | some k =>
      right
      intro e
      have := (HO3.out.lt k h2).1
      have := (hv1 k e.symm).2
      omega
  have HO36 := hid (HO35.out.kept hg6 hne)
  have HB6 := hid ((HB03.out.trans (HB5.out.mono (by omega))).grown hg6 (by omega) (fun k hk => by have := (hv1 k hk).1; omega))
  have hs6 := hg6.size
  clear hg6 hne
  go_wp2_with fail
  refine (dput_any a len cap l w6 (HA.out.up HB6.out) (by omega) HW.out).mono ?_
  rintro e w7 ⟨v3, rfl, hown7, hb7⟩
  rw [HBS.out] at hown7
  have HO7 := hid hown7
  have HB7 := hid (HB6.out.trans (hb7.mono (by omega)))
  have HO37 := hid (HO36.out.kept (grown_of2 hb7) (Classical.em _))
  clear hown7 hb7
  have HS7 := hid (sameB_own _ _ bs.length v3 v2 bs w7 (by omega) HO7.out HO37.out)
  go_wp2_with fail
  refine HS7.out.mono ?_
  rintro e w8 ⟨rfl, m2, rfl⟩
  go_wp2_with fail
  refine (known_any _).mono ?_
  rintro e w9 ⟨rfl, hb9⟩
  have HB9 := hid ((ListB.below_drewN HB7.out m2).trans (hb9.mono (show w.heap.size ≤ w7.heap.size from HB7.out.size)))
  clear hb9
  go_wp2_with fail
  go_ret
  exact ⟨rfl, HB9.out⟩
theorem insnPuts (a : Option Addr) (len cap : Nat) (l : List In) (w : World) (h : ArgN w a len l) (hwf : WfL l) (hc : len ≤ cap) (hm : cap ≤ 9223372036854775807) :
    Calls Try.prog 4 #[.slice a len cap] w fun e w' => e = .returned (.bool true) ∧ Below w.heap.size w w' := by
  by_cases h0 : 300 < len
  · exact puts_many a len cap w h0 (by omega)
  · exact puts_few a len cap l w h hwf (by omega)
end Go.Proofs.Ytccjfnkneiggcaa.Insn
