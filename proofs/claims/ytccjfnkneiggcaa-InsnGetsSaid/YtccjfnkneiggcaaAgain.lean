/-
  Plain facts: bytes that are got without error are the bytes of what was got.
-/
import Derived.Test.YtccjfnkneiggcaaBack
namespace Go.Proofs.Ytccjfnkneiggcaa.Insn
open Go.RowKit Go.Proofs.Ytccjfnkneiggcaa.Num Go.Proofs.Ytccjfnkneiggcaa.ListB
theorem lay2 (u : Nat) (h : u < 65536) : laidL (unsig (signR u 2)) 2 = [((u % 256 : Nat) : Int), ((u / 256 % 256 : Nat) : Int)] := by
  have hu := unsig_of (signR u 2)
  rw [laidL_2]
  generalize unsig (signR u 2) = q at hu
  rw [signR_2] at hu
  have e1 : q % 256 = u % 256 := by split at hu <;> omega
  have e2 : q / 256 % 256 = u / 256 % 256 := by split at hu <;> omega
  rw [e1, e2]
theorem lay4 (u : Nat) (h : u < 4294967296) : laidL (unsig (signR u 4)) 4 = [((u % 256 : Nat) : Int), ((u / 256 % 256 : Nat) : Int), ((u / 65536 % 256 : Nat) : Int), ((u / 16777216 % 256 : Nat) : Int)] := by
  have hu := unsig_of (signR u 4)
  rw [laidL_4]
  generalize unsig (signR u 4) = q at hu
  rw [signR_4] at hu
  have e1 : q % 256 = u % 256 := by split at hu <;> omega
  have e2 : q / 256 % 256 = u / 256 % 256 := by split at hu <;> omega
  have e3 : q / 65536 % 256 = u / 65536 % 256 := by split at hu <;> omega
  have e4 : q / 16777216 % 256 = u / 16777216 % 256 := by split at hu <;> omega
  rw [e1, e2, e3, e4]
theorem lay8 (u : Nat) (h : u < 18446744073709551616) : unsig (signR u 8) = u := by
  have hu := unsig_of (signR u 8)
  generalize unsig (signR u 8) = q at hu
  rw [signR_8] at hu
  split at hu <;> omega
def B8 (z : Int) : Prop := 0 ≤ z ∧ z ≤ 255
theorem lay_low (n : Nat) (a b c d : Int) (ha : B8 a) (hb : B8 b) (hc : B8 c) (hd : B8 d) (h : n = a.toNat + b.toNat * 256 + c.toNat * 65536 + d.toNat * 16777216) :
    [((n % 256 : Nat) : Int), ((n / 256 % 256 : Nat) : Int), ((n / 65536 % 256 : Nat) : Int), ((n / 16777216 % 256 : Nat) : Int)] = [a, b, c, d] := by
  obtain ⟨a0, a1⟩ := ha; obtain ⟨b0, b1⟩ := hb; obtain ⟨c0, c1⟩ := hc; obtain ⟨d0, d1⟩ := hd
  have e1 : ((n % 256 : Nat) : Int) = a := by omega
  have e2 : ((n / 256 % 256 : Nat) : Int) = b := by omega
  have e3 : ((n / 65536 % 256 : Nat) : Int) = c := by omega
  have e4 : ((n / 16777216 % 256 : Nat) : Int) = d := by omega
  rw [e1, e2, e3, e4]
theorem lay_low2 (n : Nat) (a b : Int) (ha : B8 a) (hb : B8 b) (h : n = a.toNat + b.toNat * 256) :
    [((n % 256 : Nat) : Int), ((n / 256 % 256 : Nat) : Int)] = [a, b] := by
  obtain ⟨a0, a1⟩ := ha; obtain ⟨b0, b1⟩ := hb
  have e1 : ((n % 256 : Nat) : Int) = a := by omega
  have e2 : ((n / 256 % 256 : Nat) : Int) = b := by omega
  rw [e1, e2]
theorem sum4_lt (a b c d : Int) (ha : B8 a) (hb : B8 b) (hc : B8 c) (hd : B8 d) : a.toNat + b.toNat * 256 + c.toNat * 65536 + d.toNat * 16777216 < 4294967296 := by
  obtain ⟨a0, a1⟩ := ha; obtain ⟨b0, b1⟩ := hb; obtain ⟨c0, c1⟩ := hc; obtain ⟨d0, d1⟩ := hd
  omega
theorem sum2_lt (a b : Int) (ha : B8 a) (hb : B8 b) : a.toNat + b.toNat * 256 < 65536 := by
  obtain ⟨a0, a1⟩ := ha; obtain ⟨b0, b1⟩ := hb
  omega
theorem dec_short (z0 z1 z2 z3 z4 z5 z6 z7 : Int) (r : List Int) (h : z0 ≠ 24) (b2 : B8 z2) (b3 : B8 z3) (b4 : B8 z4) (b5 : B8 z5) (b6 : B8 z6) (b7 : B8 z7) :
    encOne (decIn (z0 :: z1 :: z2 :: z3 :: z4 :: z5 :: z6 :: z7 :: r)) = [z0, z1, z2, z3, z4, z5, z6, z7] := by
  unfold decIn encOne
  simp only [numAt_2, numAt_4, List.getD_cons_zero, List.getD_cons_succ, if_neg h]
  rw [lay2 _ (sum2_lt _ _ b2 b3), lay4 _ (sum4_lt _ _ _ _ b4 b5 b6 b7), lay_low2 _ _ _ b2 b3 rfl, lay_low _ _ _ _ _ b4 b5 b6 b7 rfl, show z1 % 16 + 16 * (z1 / 16) = z1 by omega]
  rfl
theorem dec_long (z0 z1 z2 z3 z4 z5 z6 z7 z8 z9 za zb zc zd ze zf : Int) (r : List Int) (h : z0 = 24) (b2 : B8 z2) (b3 : B8 z3) (b4 : B8 z4) (b5 : B8 z5) (b6 : B8 z6) (b7 : B8 z7)
    (b8 : B8 z8) (b9 : B8 z9) (ba : B8 za) (bb : B8 zb) (bc : B8 zc) (bd : B8 zd) (be : B8 ze) (bf : B8 zf) (hz : numAt (z0 :: z1 :: z2 :: z3 :: z4 :: z5 :: z6 :: z7 :: z8 :: z9 :: za :: zb :: zc :: zd :: ze :: zf :: r) 8 4 = 0) :
    encOne (decIn (z0 :: z1 :: z2 :: z3 :: z4 :: z5 :: z6 :: z7 :: z8 :: z9 :: za :: zb :: zc :: zd :: ze :: zf :: r)) = [z0, z1, z2, z3, z4, z5, z6, z7, z8, z9, za, zb, zc, zd, ze, zf] := by
  rw [numAt_4] at hz
  unfold decIn encOne
  simp only [numAt_2, numAt_4, List.getD_cons_zero, List.getD_cons_succ, if_pos h] at hz ⊢
  have l4 := sum4_lt _ _ _ _ b4 b5 b6 b7
  have lc := sum4_lt _ _ _ _ bc bd be bf
  have c4 := lay_low _ _ _ _ _ b4 b5 b6 b7 rfl
  have cc := lay_low _ _ _ _ _ bc bd be bf rfl
  rw [lay2 _ (sum2_lt _ _ b2 b3), lay_low2 _ _ _ b2 b3 rfl, lay8 _ (by omega), laidL_8d, laidL_4, show z1 % 16 + 16 * (z1 / 16) = z1 by omega]
  generalize z4.toNat + z5.toNat * 256 + z6.toNat * 65536 + z7.toNat * 16777216 = p at *
  generalize zc.toNat + zd.toNat * 256 + ze.toNat * 65536 + zf.toNat * 16777216 = q at *
  rw [show (p + q * 4294967296) % 256 = p % 256 by omega, show (p + q * 4294967296) / 256 % 256 = p / 256 % 256 by omega, show (p + q * 4294967296) / 65536 % 256 = p / 65536 % 256 by omega, show (p + q * 4294967296) / 16777216 % 256 = p / 16777216 % 256 by omega,
    show (p + q * 4294967296) / 4294967296 % 256 = q % 256 by omega, show (p + q * 4294967296) / 1099511627776 % 256 = q / 256 % 256 by omega, show (p + q * 4294967296) / 281474976710656 % 256 = q / 65536 % 256 by omega, show (p + q * 4294967296) / 72057594037927936 % 256 = q / 16777216 % 256 by omega, c4, cc]
  obtain ⟨p8, _⟩ := b8; obtain ⟨p9, _⟩ := b9; obtain ⟨pa, _⟩ := ba; obtain ⟨pb, _⟩ := bb
  obtain rfl : z8 = 0 := by omega
  obtain rfl : z9 = 0 := by omega
  obtain rfl : za = 0 := by omega
  obtain rfl : zb = 0 := by omega
  rfl
theorem getD_of {zs : List Int} (hb : ∀ i, 0 ≤ zs.getD i 0 ∧ zs.getD i 0 ≤ 255) {i : Nat} {z : Int} (h : zs.getD i 0 = z) : B8 z := by
  have := hb i
  rw [h] at this
  exact this
theorem err_parts {zs : List Int} (he : errFirst zs = 0) : lenI (zs.getD 0 0) ≤ zs.length ∧ ¬ (zs.getD 0 0 = 24 ∧ numAt zs 8 4 ≠ 0) ∧ (decIn zs).chk = 0 := by
  unfold errFirst at he
  split at he
  · omega
  · split at he
    · omega
    · exact ⟨by omega, by assumption, he⟩
theorem long8 {r : List Int} (h : 8 ≤ r.length) : ∃ a b c d e f g i t, r = a :: b :: c :: d :: e :: f :: g :: i :: t := by
  match r, h with
  | a :: b :: c :: d :: e :: f :: g :: i :: t, _ => exact ⟨a, b, c, d, e, f, g, i, t, rfl⟩
theorem dec_back {zs : List Int} (hb : ∀ i, 0 ≤ zs.getD i 0 ∧ zs.getD i 0 ≤ 255) (he : errFirst zs = 0) : encOne (decIn zs) ++ zs.drop (lenI (zs.getD 0 0)) = zs := by
  obtain ⟨h1, h2, _⟩ := err_parts he
  have h8 := lenI_pos (zs.getD 0 0)
  obtain ⟨z0, z1, z2, z3, z4, z5, z6, z7, r, rfl⟩ := long8 (show 8 ≤ zs.length by omega)
  clear he h8
  rw [List.getD_cons_zero] at h1 h2 ⊢
  by_cases hw : z0 = 24
  · have h16 : lenI z0 = 16 := by unfold lenI; rw [if_pos hw]
    rw [h16] at h1
    obtain ⟨z8, z9, za, zb, zc, zd, ze, zf, t, rfl⟩ := long8 (show 8 ≤ r.length by simp only [List.length_cons] at h1; omega)
    rw [dec_long z0 z1 z2 z3 z4 z5 z6 z7 z8 z9 za zb zc zd ze zf t hw (getD_of hb (i := 2) rfl) (getD_of hb (i := 3) rfl) (getD_of hb (i := 4) rfl) (getD_of hb (i := 5) rfl) (getD_of hb (i := 6) rfl) (getD_of hb (i := 7) rfl) (getD_of hb (i := 8) rfl) (getD_of hb (i := 9) rfl) (getD_of hb (i := 10) rfl) (getD_of hb (i := 11) rfl) (getD_of hb (i := 12) rfl) (getD_of hb (i := 13) rfl) (getD_of hb (i := 14) rfl) (getD_of hb (i := 15) rfl) (Classical.byContradiction fun h => h2 ⟨hw, h⟩), h16]
    rfl
  · have h8 : lenI z0 = 8 := by unfold lenI; rw [if_neg hw]
    rw [dec_short z0 z1 z2 z3 z4 z5 z6 z7 r hw (getD_of hb (i := 2) rfl) (getD_of hb (i := 3) rfl) (getD_of hb (i := 4) rfl) (getD_of hb (i := 5) rfl) (getD_of hb (i := 6) rfl) (getD_of hb (i := 7) rfl), h8]
    rfl
theorem dec_big (zs : List Int) (hb : ∀ i, 0 ≤ zs.getD i 0 ∧ zs.getD i 0 ≤ 255) : -9223372036854775808 ≤ (decIn zs).m ∧ (decIn zs).m ≤ 9223372036854775807 := by
  have b : ∀ k, numAt zs k 4 < 4294967296 := fun k => by rw [numAt_4]; exact sum4_lt _ _ _ _ (hb _) (hb _) (hb _) (hb _)
  have l4 := b 4
  have lc := b 12
  unfold decIn
  simp only
  split
  · rw [signR_8]; split <;> omega
  · rw [signR_4]; split <;> omega
theorem getD_dropI (zs : List Int) (k i : Nat) : (zs.drop k).getD i 0 = zs.getD (k + i) 0 := by
  rw [List.getD_eq_getElem?_getD, List.getElem?_drop, ← List.getD_eq_getElem?_getD]
theorem getT_ok : ∀ (f : Nat) (acc : List In) (zs : List Int) (R : List In), (∀ i, 0 ≤ zs.getD i 0 ∧ zs.getD i 0 ≤ 255) → f + acc.length = 257 → 0 < f → getT f acc zs = (R, 0) → ∃ l, R = acc ++ l ∧ AllOk l ∧ Big l ∧ enc l = zs ∧ R.length ≤ 256 := by
  intro f
  induction f with
  | zero => intro acc zs R _ _ h0; omega
  | succ f ih =>
    intro acc zs R hb hf _ hg
    by_cases hz : zs = []
    · rw [getT_end _ _ _ hz] at hg
      obtain rfl := (Prod.mk.inj hg).1
      exact ⟨[], by simp, allOk_nil, fun k x h => by simp at h, hz ▸ rfl, by omega⟩
    · by_cases ha : acc.length = 256
      · rw [getT_many _ _ _ hz ha] at hg
        have := (Prod.mk.inj hg).2
        omega
      · by_cases he : errFirst zs = 0
        · rw [getT_step _ _ _ hz ha he] at hg
          obtain ⟨l, e1, e2, e3, e4, e5⟩ := ih _ _ R (fun i => by rw [getD_dropI]; exact hb _) (by rw [List.length_append]; simp only [List.length_cons, List.length_nil]; omega) (by omega) hg
          refine ⟨decIn zs :: l, by rw [e1]; simp, ?_, ?_, ?_, e5⟩
          · intro k x hx
            cases k with
            | zero => simp at hx; subst hx; exact (err_parts he).2.2
            | succ k => exact e2 k x (by simpa using hx)
          · intro k x hx
            cases k with
            | zero => simp at hx; subst hx; exact dec_big zs hb
            | succ k => exact e3 k x (by simpa using hx)
          · rw [enc_cons, e4]; exact dec_back hb he
        · rw [getT_err _ _ _ hz ha he] at hg
          exact absurd (Prod.mk.inj hg).2 he
theorem getR_ok {zs : List Int} {l : List In} (hb : ∀ i, 0 ≤ zs.getD i 0 ∧ zs.getD i 0 ≤ 255) (h : getR zs = (l, 0)) : AllOk l ∧ Big l ∧ enc l = zs ∧ l.length ≤ 256 := by
  obtain ⟨m, e1, e2, e3, e4, e5⟩ := getT_ok 257 [] zs l hb rfl (by omega) h
  obtain rfl : l = m := by simpa using e1
  exact ⟨e2, e3, e4, e5⟩
theorem getT_bad : ∀ (f : Nat) (acc : List In) (zs : List Int), (getT f acc zs).2 ≠ 0 → (getT f acc zs).1 = [] := by
  intro f
  induction f with
  | zero => intro acc zs h; unfold getT at h; simp at h
  | succ f ih =>
    intro acc zs h
    by_cases hz : zs = []
    · rw [getT_end _ _ _ hz] at h; simp at h
    · by_cases ha : acc.length = 256
      · rw [getT_many _ _ _ hz ha]
      · by_cases he : errFirst zs = 0
        · rw [getT_step _ _ _ hz ha he] at h ⊢; exact ih _ _ h
        · rw [getT_err _ _ _ hz ha he]
theorem getR_bad {zs : List Int} (h : (getR zs).2 ≠ 0) : (getR zs).1 = [] := getT_bad _ _ _ h
theorem wfL_of {l : List In} (h1 : AllOk l) (h2 : Big l) : WfL l := fun k x hx => by
  have f := fine_of (h1 k x hx)
  have b := h2 k x hx
  have f1 := f.op; have f2 := f.d; have f3 := f.s; have f4 := f.o
  exact ⟨WalkArith.wf_i64 (by omega), WalkArith.wf_i64 (by omega), WalkArith.wf_i64 (by omega), WalkArith.wf_i64 (by omega), WalkArith.wf_i64 (by omega)⟩
theorem allOk_take {l : List In} (h : AllOk l) (k : Nat) : AllOk (l.take k) := fun j x hx => h j x (by rw [List.getElem?_take] at hx; split at hx; exact hx; cases hx)
theorem wfL_take {l : List In} (h : WfL l) (k : Nat) : WfL (l.take k) := fun j x hx => h j x (by rw [List.getElem?_take] at hx; split at hx; exact hx; cases hx)
theorem nrow_take {w : World} {b off : Nat} {l : List In} (h : NRow w b off l) (k : Nat) : NRow w b off (l.take k) := fun j x hx => h j x (by rw [List.getElem?_take] at hx; split at hx; exact hx; cases hx)
theorem cut_again {zs : List Int} {l : List In} (e : enc l = zs) (h1 : AllOk l) (h2 : Big l) (h3 : l.length ≤ 256) (c : Nat) : (∃ k, k ≤ l.length ∧ getR (zs.take c) = (l.take k, 0) ∧ enc (l.take k) = zs.take c) ∨ getR (zs.take c) = ([], 20) := by
  have := get_cut l [] c h1 h2 (by simp; omega)
  rw [e] at this
  simpa [getR] using this
end Go.Proofs.Ytccjfnkneiggcaa.Insn
