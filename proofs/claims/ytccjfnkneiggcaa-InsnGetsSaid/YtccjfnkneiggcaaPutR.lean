/-
  Plain facts on instructions that are put; the program's Put.
-/
import Derived.Test.YtccjfnkneiggcaaDevBytes
import Derived.OpenShut
namespace Go.Proofs.Ytccjfnkneiggcaa.Insn
open Go.RowKit Go.Proofs.Ytccjfnkneiggcaa.Num Go.Proofs.Ytccjfnkneiggcaa.ListB
structure InWf (x : In) : Prop where
  op : (Lit.int .i64 x.op).wf = true
  d : (Lit.int .i64 x.d).wf = true
  s : (Lit.int .i64 x.s).wf = true
  o : (Lit.int .i64 x.o).wf = true
  m : (Lit.int .i64 x.m).wf = true
def WfL (l : List In) : Prop := ∀ (k : Nat) (x : In), l[k]? = some x → InWf x
def firstErr : List In → Int
  | [] => 0
  | x :: r => if x.chk = 0 then firstErr r else x.chk
def AllOk (l : List In) : Prop := ∀ (k : Nat) (x : In), l[k]? = some x → x.chk = 0
theorem allOk_nil : AllOk [] := fun k x h => by simp at h
theorem allOk_snoc {l : List In} {k : Nat} {x : In} (h : AllOk (l.take k)) (hx : l[k]? = some x) (hc : x.chk = 0) : AllOk (l.take (k + 1)) := by
  obtain ⟨hk, e⟩ := List.getElem?_eq_some_iff.1 hx
  intro j y hy
  rw [List.getElem?_take] at hy
  split at hy
  · by_cases hj : j < k
    · exact h j y (by rw [List.getElem?_take, if_pos hj]; exact hy)
    · obtain rfl : j = k := by omega
      rw [hx] at hy; cases hy; exact hc
  · cases hy
theorem firstErr_ok {l : List In} (h : AllOk l) : firstErr l = 0 := by
  induction l with
  | nil => rfl
  | cons x r ih =>
    unfold firstErr
    rw [if_pos (h 0 x rfl)]
    exact ih fun k y hy => h (k + 1) y (by simpa using hy)
theorem ok_firstErr {l : List In} (h : firstErr l = 0) : AllOk l := by
  induction l with
  | nil => exact allOk_nil
  | cons x r ih =>
    unfold firstErr at h
    by_cases hx : x.chk = 0
    · rw [if_pos hx] at h
      intro k y hy
      cases k with
      | zero => simp at hy; subst hy; exact hx
      | succ k => exact ih h k y (by simpa using hy)
    · rw [if_neg hx] at h; exact absurd h hx
theorem firstErr_at {l : List In} {k : Nat} {x : In} (h : AllOk (l.take k)) (hx : l[k]? = some x) (hc : x.chk ≠ 0) : firstErr l = x.chk := by
  induction l generalizing k with
  | nil => simp at hx
  | cons y r ih =>
    unfold firstErr
    cases k with
    | zero => simp at hx; subst hx; rw [if_neg hc]
    | succ k =>
      rw [if_pos (h 0 y (by simp))]
      exact ih (k := k) (fun j z hz => h (j + 1) z (by simpa using hz)) (by simpa using hx)
def putErr (l : List In) : Int := if 256 < l.length then 19 else firstErr l
def putL (l : List In) : List Int := if putErr l = 0 then enc l else []
theorem putL_err {l : List In} (h : putErr l ≠ 0) : putL l = [] := by unfold putL; rw [if_neg h]
theorem putL_ok {l : List In} (h : putErr l = 0) : putL l = enc l := by unfold putL; rw [if_pos h]
theorem enc_le (l : List In) : (enc l).length ≤ 16 * l.length := by
  induction l with
  | nil => simp [enc]
  | cons x l ih =>
    rw [enc_cons, List.length_append, encOne_length, List.length_cons]
    unfold lenI; split <;> omega
theorem enc_snoc (l : List In) (k : Nat) (x : In) (h : l[k]? = some x) : enc (l.take k) ++ encOne x = enc (l.take (k + 1)) := by
  obtain ⟨hk, e⟩ := List.getElem?_eq_some_iff.1 h
  rw [List.take_succ_eq_append_getElem hk, enc_append, e]
  simp [enc]
def PutPost (w : World) (l : List In) (e : Ending) (w' : World) : Prop :=
  ∃ v, e = .returned (.tuple #[v, .int .i64 (putErr l)]) ∧ w'.ownsRow w.heap.size 5 1 v (putL l).length (V (putL l)) ∧ Below w.heap.size w w'
theorem put_many (w w' : World) (l : List In) (h : 256 < l.length) (hb : Below w.heap.size w w') : PutPost w l (.returned (.tuple #[.slice none 0 0, .int .i64 19])) w' := by
  have e : putErr l = 19 := by unfold putErr; rw [if_pos h]
  refine ⟨_, by rw [e], ?_, hb⟩
  rw [putL_err (by omega)]
  exact World.ownsRow_nil _ _ _ _
theorem put_bad (w w' : World) (l : List In) (k : Nat) (x : In) (hl : l.length ≤ 256) (hok : AllOk (l.take k)) (hx : l[k]? = some x) (hc : x.chk ≠ 0) (hb : Below w.heap.size w w') : PutPost w l (.returned (.tuple #[.slice none 0 0, .int .i64 x.chk])) w' := by
  have e : putErr l = x.chk := by unfold putErr; rw [if_neg (by omega)]; exact firstErr_at hok hx hc
  refine ⟨_, by rw [e], ?_, hb⟩
  rw [putL_err (by rw [e]; exact hc)]
  exact World.ownsRow_nil _ _ _ _
theorem put_good (w w' : World) (l : List In) (v : Value) (n : Nat) (hl : l.length ≤ 256) (hok : AllOk l) (hn : n = (enc l).length) (hown : w'.ownsRow w.heap.size 5 1 v n (V (enc l))) (hb : Below w.heap.size w w') : PutPost w l (.returned (.tuple #[v, .int .i64 0])) w' := by
  have e : putErr l = 0 := by unfold putErr; rw [if_neg (by omega)]; exact firstErr_ok hok
  subst hn
  exact ⟨v, by rw [e], by rw [putL_ok e]; exact hown, hb⟩
theorem dput_many (a : Option Addr) (len cap : Nat) (l : List In) (w : World) (h : ArgN w a len l) (hl : 256 < len) (hl2 : len ≤ 9223372036854775807) :
    Calls Try.prog 19 #[.slice a len cap] w (PutPost w l) := by
  have HP := hid (put_many w w l (by rw [h.1]; exact hl) (Below.refl _ _))
  clear h
  go_enter Try.func19, Try.ntmps19
  go_wp2_with fail
  go_ret2
  exact HP.out
theorem own_cells {w : World} {base g n c : Nat} {zs : List Int} (h : w.ownsRow base 5 1 (.slice (some ⟨g, 0, none⟩) n c) n (V zs)) : ∀ j u, (V zs)[j]? = some u → w.cell? ((⟨g, 0, none⟩ : Addr).add j) = some u := by
  intro j u hu
  have hj : j < n * 1 := by have := (List.getElem?_eq_some_iff.1 hu).1; rw [h.1] at this; exact this
  have e : (⟨g, 0, none⟩ : Addr).add j = ⟨g, j, none⟩ := by unfold Addr.add; split <;> simp_all
  rw [e, h.cellAt j hj]; exact hu
theorem V_one (zs : List Int) : ∀ u ∈ V zs, u.oneCell' = true := by
  intro u hu
  unfold V at hu
  simp at hu
  obtain ⟨a, _, rfl⟩ := hu
  rfl
set_option maxHeartbeats 2000000 in
theorem dput_row (a : Option Addr) (len cap : Nat) (l : List In) (w : World) (h : ArgN w a len l) (hl : len ≤ 256) (hwf : WfL l) :
    Calls Try.prog 19 #[.slice a len cap] w (PutPost w l) := by
  have HA := hid h
  have HW := hid hwf
  have hz := h.1
  have HP1 := hid (fun w' k x hok hx hc hb => put_bad w w' l k x (by omega) hok hx hc hb)
  have HP2 := hid (fun w' v n hok hn hown hb => put_good w w' l v n (by omega) hok hn hown hb)
  have HZ := hid hz
  clear h hwf hz
  obtain ⟨i0, hi, hz0, hz1, hz2⟩ := info_parts info8
  go_enter Try.func19, Try.ntmps19
  go_wp2
  go_loopw [4, 13] (fun v i wr => ∃ k : Nat, k ≤ len ∧ i = .int .i64 k ∧ Hid (AllOk (l.take k)) ∧ wr.ownsRow w.heap.size 5 1 v (enc (l.take k)).length (V (enc (l.take k))) ∧ Below w.heap.size w wr) (fun _ i _ => len - (intOf i).toNat)
  case atStart => exact ⟨0, Nat.zero_le _, rfl, hid allOk_nil, World.ownsRow_nil _ _ _ _, Below.refl _ _⟩
  case round =>
    obtain ⟨k, hk, rfl, hok, hown, hbel⟩ := hrel
    by_cases hlt : k < len
    · obtain ⟨x, hx⟩ : ∃ x, l[k]? = some x := ⟨_, List.getElem?_eq_getElem (by rw [HZ.out]; exact hlt)⟩
      obtain ⟨b, off, rfl, hb, hc⟩ := HA.out.2 (by omega)
      obtain ⟨c0, c1, c2, c3, c4⟩ := (hc.below hbel hb) k x hx
      have HX := hid hx
      have hxw := HW.out k x hx
      have HCK := hid (fun w => dcheck_any x.op x.d x.s x.o x.m w hxw.op)
      have hxe : chkD x.op x.d x.s x.o x.m = x.chk := chk_eq _ _ _ _ _ (bounds_i64 hxw.m)
      have HXE := hid hxe
      rw [HXE.out] at HCK
      clear hx hxw hxe hc hb
      have HO := hid hown
      have HB := hid hbel
      have hsz := hbel.size
      clear hown hbel
      have HBY := hid (fun w hf => bytesOf_any x w hf)
      have hst := hid (enc_snoc l k x HX.out)
      have hle := enc_le (l.take k)
      have hle2 : (l.take k).length ≤ k := List.length_take_le _ _
      have hxl := encOne_length x
      have hl16 : lenI x.op ≤ 16 := by unfold lenI; split <;> omega
      obtain ⟨q, hq⟩ : ∃ q, x.chk = q := ⟨_, rfl⟩
      rw [hq] at HCK
      have HQ := hid hq
      clear hq
      obtain ⟨xo, xd, xs, xf, xm⟩ := x
      unfold insnV at HCK HBY
      simp only at c0 c1 c2 c3 c4 HCK HBY hl16 hxl
      go_wp2_with fail
      refine (HCK.out _).mono ?_
      rintro e w2 ⟨rfl, hb2⟩
      have y0 := cell_up (b := wr.heap.size) (o := 0) (v := .int .i64 xo) (by simp) hb2 (by simp)
      have y1 := cell_up (b := wr.heap.size) (o := 1) (v := .int .i64 xd) (by simp) hb2 (by simp)
      have y2 := cell_up (b := wr.heap.size) (o := 2) (v := .int .i64 xs) (by simp) hb2 (by simp)
      have y3 := cell_up (b := wr.heap.size) (o := 3) (v := .int .i64 xf) (by simp) hb2 (by simp)
      have y4 := cell_up (b := wr.heap.size) (o := 4) (v := .int .i64 xm) (by simp) hb2 (by simp)
      have HB2 := hid ((below_new wr (.cells #[.int .i64 xo, .int .i64 xd, .int .i64 xs, .int .i64 xf, .int .i64 xm] 23)).trans (hb2.mono (by simp)))
      clear hb2 c0 c1 c2 c3 c4
      by_cases h0 : q = 0
      · subst h0
        go_wp2_with fail
        refine (HBY.out _ (fine_of HQ.out)).mono ?_
        rintro e w3 ⟨g, cp, rfl, hown3, hb3⟩
        have hb23 : Below wr.heap.size wr w3 := HB2.out.trans (hb3.mono HB2.out.size)
        have hown' := HO.out.kept (grown_of2 hb23) (Classical.em _)
        have hbel' : Below w.heap.size w w3 := HB.out.trans (hb23.mono hsz)
        have hsz3 := hbel'.size
        have HO3 := hid hown3
        have HOO := hid hown'
        have HBB := hid hbel'
        clear hown3 hb3 hb23 hown' hbel' y0 y1 y2 y3 y4
        have OC := hid (own_cells HO3.out)
        have V1 := hid (V_one (encOne ⟨xo, xd, xs, xf, xm⟩))
        go_wp2_with (at_builtin; refine wpList_append_own _ rfl _ _ 33 rfl w.heap.size 5 i0 (.int .u8 0) 1 1 Try.underlying33 hi hz0 hz1 hz2 rfl (by decide) _ _ _ rfl HOO.out ⟨g, 0, none⟩ (lenI xo) cp (V (encOne ⟨xo, xd, xs, xf, xm⟩)) rfl HO3.out.1 OC.out V1.out ?c3 ?c4 ?c5 ?_)
        case c3 => unfold maxLen; omega
        case c4 => omega
        case c5 => omega
        intro v' w4 hown4 hgrow _
        have HO5 := hid (show w4.ownsRow w.heap.size 5 1 v' (enc (l.take (k + 1))).length (V (enc (l.take (k + 1)))) from by
          rw [← hst.out, V_append, List.length_append, encOne_length]; exact hown4)
        have HB5 := hid (HBB.out.grown hgrow hsz3 (fun q hq => (HOO.out.lt q hq).1))
        have HK5 := hid (allOk_snoc hok.out HX.out HQ.out)
        clear hown4 hgrow
        go_wp2_with fail
        go_roundw
        case rel => exact ⟨k + 1, by omega, by go_num, HK5, HO5.out, HB5.out⟩
        case measure => simp [intOf]; omega
      · have hne : (q != 0) = true := by simpa using h0
        have HF := hid (HP1.out w2 k _ hok.out HX.out (by rw [HQ.out]; exact h0) (HB.out.trans (HB2.out.mono hsz)))
        rw [HQ.out] at HF
        clear h0 y0 y1 y2 y3 y4
        go_wp2_with fail
        go_ret2
        exact HF.out
    · have hkk : k = len := by omega
      have hz2 : l.take k = l := List.take_of_length_le (by rw [HZ.out]; omega)
      rw [hz2] at hown hok
      have HF := hid (HP2.out wr _ _ hok.out rfl hown hbel)
      clear hown hbel hz2 hkk
      have hge : len ≤ k := by omega
      go_wp2_with fail
      go_ret2
      exact HF.out
end Go.Proofs.Ytccjfnkneiggcaa.Insn
