/-
  Contracts of what each law asks: some of the chapter's examples; and of the limits of the laws' instructions.
-/
import Derived.Test.YtpknnmnknaaccaaFlH
import Derived.Test.YtpknnmnknaaccaaPutR
namespace Go.Proofs.Ytpknnmnknaaccaa.Flow
open Go.RowKit Go.Proofs.Ytpknnmnknaaccaa.Num Go.Proofs.Ytpknnmnknaaccaa.ListB Go.Proofs.Ytpknnmnknaaccaa.Insn
def movI : In := ⟨183, 0, 0, 0, 0⟩
def exitI : In := ⟨149, 0, 0, 0, 0⟩
def wideI : In := ⟨24, 0, 0, 0, 0⟩
def jumpI (o : Int) : In := ⟨21, 0, 0, o, 0⟩
def jaI (o : Int) : In := ⟨5, 0, 0, o, 0⟩
theorem mov_any (w : World) :
    Calls Try.prog 24 #[] w fun e w' => e = .returned (.agg #[.int .i64 183, .int .i64 0, .int .i64 0, .int .i64 0, .int .i64 0]) ∧ Below w.heap.size w w' := by
  go_enter Try.func24, Try.ntmps24
  go_wp2
  exact bodyPost_ret (v := .agg #[.int .i64 183, .int .i64 0, .int .i64 0, .int .i64 0, .int .i64 0]) (by simp [results, Try.results24, go_sem]) rfl ⟨rfl, (Below.refl _ _).alloc (Nat.le_refl _) _⟩
theorem exit_any (w : World) :
    Calls Try.prog 25 #[] w fun e w' => e = .returned (.agg #[.int .i64 149, .int .i64 0, .int .i64 0, .int .i64 0, .int .i64 0]) ∧ Below w.heap.size w w' := by
  go_enter Try.func25, Try.ntmps25
  go_wp2
  exact bodyPost_ret (v := .agg #[.int .i64 149, .int .i64 0, .int .i64 0, .int .i64 0, .int .i64 0]) (by simp [results, Try.results25, go_sem]) rfl ⟨rfl, (Below.refl _ _).alloc (Nat.le_refl _) _⟩
theorem wide_any (w : World) :
    Calls Try.prog 28 #[] w fun e w' => e = .returned (.agg #[.int .i64 24, .int .i64 0, .int .i64 0, .int .i64 0, .int .i64 0]) ∧ Below w.heap.size w w' := by
  go_enter Try.func28, Try.ntmps28
  go_wp2
  exact bodyPost_ret (v := .agg #[.int .i64 24, .int .i64 0, .int .i64 0, .int .i64 0, .int .i64 0]) (by simp [results, Try.results28, go_sem]) rfl ⟨rfl, (Below.refl _ _).alloc (Nat.le_refl _) _⟩
theorem jump_any (o : Int) (w : World) :
    Calls Try.prog 26 #[.int .i64 o] w fun e w' => e = .returned (.agg #[.int .i64 21, .int .i64 0, .int .i64 0, .int .i64 o, .int .i64 0]) ∧ Below w.heap.size w w' := by
  go_enter Try.func26, Try.ntmps26
  go_wp2
  exact bodyPost_ret (v := .agg #[.int .i64 21, .int .i64 0, .int .i64 0, .int .i64 o, .int .i64 0]) (by simp [results, Try.results26, go_sem]) rfl ⟨rfl, (Below.refl _ _).alloc (Nat.le_refl _) _⟩
theorem ja_any (o : Int) (w : World) :
    Calls Try.prog 27 #[.int .i64 o] w fun e w' => e = .returned (.agg #[.int .i64 5, .int .i64 0, .int .i64 0, .int .i64 o, .int .i64 0]) ∧ Below w.heap.size w w' := by
  go_enter Try.func27, Try.ntmps27
  go_wp2
  exact bodyPost_ret (v := .agg #[.int .i64 5, .int .i64 0, .int .i64 0, .int .i64 o, .int .i64 0]) (by simp [results, Try.results27, go_sem]) rfl ⟨rfl, (Below.refl _ _).alloc (Nat.le_refl _) _⟩
/-- Instructions in a new block. -/
theorem argN_new {w : World} {cs : Array Value} {T : TypeId} {k : Nat} (l : List In) (hk : w.heap.size = k) (hcs : cs.toList = VN l) : ArgN (w.alloc (.cells cs T)) (some ⟨k, 0, none⟩) l.length l := by
  subst hk
  refine ⟨rfl, fun _ => ⟨w.heap.size, 0, rfl, by simp, fun j x hx => ?_⟩⟩
  have c : ∀ i u, x.vals[i]? = some u → (w.alloc (.cells cs T)).cell? ⟨w.heap.size, 0 + j * 5 + i, none⟩ = some u := fun i u hu => by
    have h := VN_get l j x i u hx hu
    rw [← hcs] at h
    exact new_cell rfl (by rw [Nat.zero_add]; simpa using h)
  exact ⟨c 0 _ rfl, c 1 _ rfl, c 2 _ rfl, c 3 _ rfl, c 4 _ rfl⟩
theorem argI_new {w : World} {cs : Array Value} {T : TypeId} {k n : Nat} (zs : List Int) (hk : w.heap.size = k) (hn : zs.length = n) (hcs : cs.toList = VI zs) : ArgI (w.alloc (.cells cs T)) (.slice (some ⟨k, 0, none⟩) n n) zs := by
  subst hk hn
  refine ⟨_, _, rfl, fun _ => ⟨w.heap.size, 0, rfl, by simp, fun i hi => ?_⟩⟩
  have h := VI_get zs i hi
  rw [← hcs] at h
  exact new_cell rfl (by rw [Nat.zero_add]; simpa using h)
def offB (l : List In) : Bool := l.all fun x => decide (-32768 ≤ x.o) && decide (x.o ≤ 32767)
theorem offL_of {l : List In} (h : offB l = true) : OffL l := fun k x hx => by
  have := List.all_eq_true.1 h x (List.mem_of_getElem? hx)
  simpa using this
set_option maxHeartbeats 1000000 in
theorem is_any (wv : Value) (ws : List Int) (e : Int) (a : Option Addr) (n cap : Nat) (l : List In) (w : World) (h : ArgN w a n l) (hw : ArgI w wv ws) (ho : OffL l) (hn : n ≤ 1000) (he : errF l = e) (hu : outF l = ws) (h1 : (outF l).length ≤ 1000) :
    Calls Try.prog 23 #[wv, .int .i64 e, .slice a n cap] w fun e' w' => e' = .returned (.bool true) ∧ Below w.heap.size w w' := by
  have HT := hid (targets_any a n cap l w h ho (by omega))
  have HW := hid hw
  have HE := hid he
  have HU := hid hu
  clear h hw he hu
  go_enter Try.func23, Try.ntmps23
  go_wp2_with fail
  refine HT.out.mono ?_
  rintro e' w1 ⟨v, rfl, hown, hb⟩
  rw [HE.out]
  have HS := hid (sameI_any v wv (outF l) ws w1 (by omega) (own_argI hown) (HW.out.up hb))
  rw [HU.out, show decide (ws = ws) = true by simp] at HS
  have HB := hid hb
  clear hb hown
  go_wp2_with fail
  refine HS.out.mono ?_
  rintro e' w2 ⟨rfl, m, rfl⟩
  go_wp2_with fail
  go_ret
  exact ⟨rfl, ListB.below_drewN HB.out m⟩
set_option maxHeartbeats 4000000 in
/-- Each law asks these three examples. -/
theorem knownF_any (w : World) :
    Calls Try.prog 9 #[] w fun e w' => e = .returned (.bool true) ∧ Below w.heap.size w w' := by
  go_enter Try.func9, Try.ntmps9
  have HB := hid (Below.refl w.heap.size w)
  -- 0
  go_wp2_with fail
  have HQ0 := hid (argI_new (w := w) (T := 3) (k := w.heap.size) [2, -1, -1] rfl rfl (show (#[Value.int .i64 (2), Value.int .i64 (-1), Value.int .i64 (-1)] : Array Value).toList = VI [2, -1, -1] from rfl))
  have HX0 := hid (HB.out.alloc HB.out.size (.cells #[Value.int .i64 (2), Value.int .i64 (-1), Value.int .i64 (-1)] 3))
  refine (jump_any (2) _).mono ?_
  rintro e w0_0 ⟨rfl, hb⟩
  have HQ0_0 := hid (HQ0.out.up hb)
  have HB0_0 := hid (HX0.out.trans (hb.mono HX0.out.size))
  clear hb
  go_wp2_with fail
  refine (wide_any _).mono ?_
  rintro e w0_1 ⟨rfl, hb⟩
  have HQ0_1 := hid (HQ0_0.out.up hb)
  have HB0_1 := hid (HB0_0.out.trans (hb.mono HB0_0.out.size))
  clear hb
  go_wp2_with fail
  refine (exit_any _).mono ?_
  rintro e w0_2 ⟨rfl, hb⟩
  have HQ0_2 := hid (HQ0_1.out.up hb)
  have HB0_2 := hid (HB0_1.out.trans (hb.mono HB0_1.out.size))
  clear hb
  go_wp2_with fail
  refine (is_any _ [2, -1, -1] 0 _ 3 3 [jumpI 2, wideI, exitI] _ (argN_new [jumpI 2, wideI, exitI] (by simp) rfl) (HQ0_2.out.up (below_new _ _)) (offL_of (by decide)) (by omega) (by decide +kernel) (by decide +kernel) (by decide +kernel)).mono ?_
  rintro e w0 ⟨rfl, hb⟩
  have HB0 := hid ((HB0_2.out.alloc HB0_2.out.size (.cells #[Value.int .i64 (21), Value.int .i64 (0), Value.int .i64 (0), Value.int .i64 (2), Value.int .i64 (0), Value.int .i64 (24), Value.int .i64 (0), Value.int .i64 (0), Value.int .i64 (0), Value.int .i64 (0), Value.int .i64 (149), Value.int .i64 (0), Value.int .i64 (0), Value.int .i64 (0), Value.int .i64 (0)] 35)).trans (hb.mono (by have := HB0_2.out.size; simp; omega)))
  clear hb
  -- 1
  go_wp2_with fail
  refine (jump_any (1) _).mono ?_
  rintro e w1_0 ⟨rfl, hb⟩
  have HB1_0 := hid (HB0.out.trans (hb.mono HB0.out.size))
  clear hb
  go_wp2_with fail
  refine (wide_any _).mono ?_
  rintro e w1_1 ⟨rfl, hb⟩
  have HB1_1 := hid (HB1_0.out.trans (hb.mono HB1_0.out.size))
  clear hb
  go_wp2_with fail
  refine (exit_any _).mono ?_
  rintro e w1_2 ⟨rfl, hb⟩
  have HB1_2 := hid (HB1_1.out.trans (hb.mono HB1_1.out.size))
  clear hb
  go_wp2_with fail
  refine (is_any _ [] 11 _ 3 3 [jumpI 1, wideI, exitI] _ (argN_new [jumpI 1, wideI, exitI] (by simp) rfl) (argI_nil _) (offL_of (by decide)) (by omega) (by decide +kernel) (by decide +kernel) (by decide +kernel)).mono ?_
  rintro e w1 ⟨rfl, hb⟩
  have HB1 := hid ((HB1_2.out.alloc HB1_2.out.size (.cells #[Value.int .i64 (21), Value.int .i64 (0), Value.int .i64 (0), Value.int .i64 (1), Value.int .i64 (0), Value.int .i64 (24), Value.int .i64 (0), Value.int .i64 (0), Value.int .i64 (0), Value.int .i64 (0), Value.int .i64 (149), Value.int .i64 (0), Value.int .i64 (0), Value.int .i64 (0), Value.int .i64 (0)] 35)).trans (hb.mono (by have := HB1_2.out.size; simp; omega)))
  clear hb
  -- 2
  go_wp2_with fail
  refine (ja_any (1) _).mono ?_
  rintro e w2_0 ⟨rfl, hb⟩
  have HB2_0 := hid (HB1.out.trans (hb.mono HB1.out.size))
  clear hb
  go_wp2_with fail
  refine (mov_any _).mono ?_
  rintro e w2_1 ⟨rfl, hb⟩
  have HB2_1 := hid (HB2_0.out.trans (hb.mono HB2_0.out.size))
  clear hb
  go_wp2_with fail
  refine (exit_any _).mono ?_
  rintro e w2_2 ⟨rfl, hb⟩
  have HB2_2 := hid (HB2_1.out.trans (hb.mono HB2_1.out.size))
  clear hb
  go_wp2_with fail
  refine (is_any _ [] 13 _ 3 3 [jaI 1, movI, exitI] _ (argN_new [jaI 1, movI, exitI] (by simp) rfl) (argI_nil _) (offL_of (by decide)) (by omega) (by decide +kernel) (by decide +kernel) (by decide +kernel)).mono ?_
  rintro e w2 ⟨rfl, hb⟩
  have HB2 := hid ((HB2_2.out.alloc HB2_2.out.size (.cells #[Value.int .i64 (5), Value.int .i64 (0), Value.int .i64 (0), Value.int .i64 (1), Value.int .i64 (0), Value.int .i64 (183), Value.int .i64 (0), Value.int .i64 (0), Value.int .i64 (0), Value.int .i64 (0), Value.int .i64 (149), Value.int .i64 (0), Value.int .i64 (0), Value.int .i64 (0), Value.int .i64 (0)] 35)).trans (hb.mono (by have := HB2_2.out.size; simp; omega)))
  clear hb
  go_wp2_with fail
  go_ret
  exact ⟨rfl, HB2.out⟩
end Go.Proofs.Ytpknnmnknaaccaa.Flow
