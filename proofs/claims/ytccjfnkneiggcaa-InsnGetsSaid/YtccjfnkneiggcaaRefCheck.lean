/-
  Contracts of the document's rows of instructions: Check.
-/
import Derived.Test.YtccjfnkneiggcaaRefRanged
import Derived.Deep.DeepCutAuto
namespace Go.Proofs.Ytccjfnkneiggcaa.Insn
open Go.RowKit Go.Proofs.Ytccjfnkneiggcaa.Num
def atB (op : Int) : Bool := op == 195 || op == 219
def regB (op d s m : Int) (wr : Bool) : Bool := decide (d < 0) || decide (10 < d) || decide (s < 0) || decide (10 < s) || (wr && d == 10) || (atB op && atomF m && s == 10)
def fieldB (op d s o m : Int) (f : ByteArray) : Bool := (!hasB f 100 && d != 0) || (!hasB f 115 && s != 0) || (!hasB f 111 && o != 0) || (!hasB f 105 && m != 0) || (op == 24 && decide (1 < s))
def rangeB (op s o m lo hi : Int) : Bool := decide (o < -32768) || decide (32767 < o) || !rangedB op s m lo hi
def chkR (op d s o m : Int) (r : RowV) : Int :=
  if r.is = false then 7 else if regB op d s m r.wr then 8 else if fieldB op d s o m r.f then 9 else if rangeB op s o m r.lo r.hi then 10 else 0
def chk (op d s o m : Int) : Int := chkR op d s o m (findR op)
theorem aluR_f (op : Int) : (aluR op).f.size ≤ 4 := by
  unfold aluR
  repeat' split
  all_goals exact Nat.le_of_ble_eq_true rfl
theorem jmpR_f (op : Int) : (jmpR op).f.size ≤ 4 := by
  unfold jmpR
  repeat' split
  all_goals exact Nat.le_of_ble_eq_true rfl
theorem findR_f (op : Int) : (findR op).f.size ≤ 9223372036854775807 := by
  refine Nat.le_trans ?_ (Nat.le_of_ble_eq_true rfl : 4 ≤ 9223372036854775807)
  unfold findR
  repeat' split
  all_goals first | exact aluR_f op | exact jmpR_f op | exact Nat.le_of_ble_eq_true rfl
set_option maxRecDepth 100000 in
set_option maxHeartbeats 8000000 in
theorem check_any (op d s o m : Int) (w : World) :
    Calls Try.prog 12 #[insnV op d s o m] w fun e w' => e = .returned (.int .i64 (chk op d s o m)) ∧ Below w.heap.size w w' := by
  unfold insnV chk
  have hf : (findR op).f.size ≤ 9223372036854775807 := findR_f op
  generalize hr : findR op = r at hf
  obtain ⟨ri, rf, rwr, lo, hi⟩ := r
  simp only at hf
  have HR := hid hr; clear hr
  obtain ⟨bt, hbt⟩ : ∃ b, atB op = b := ⟨_, rfl⟩
  obtain ⟨ft, hft⟩ : ∃ b, atomF m = b := ⟨_, rfl⟩
  have HBT := hid hbt; have HFT := hid hft
  clear hbt hft
  cases ri
  · go_enter Try.func12, Try.ntmps12
    go_wp2_with fail
    refine (find_any op _).mono ?_
    rintro e w1 ⟨rfl, hb⟩
    rw [HR.out]
    unfold RowV.val
    have hB := hb.size
    simp at hB
    have hbel : Below w.heap.size w w1 := ((Below.refl _ _).alloc (Nat.le_refl _) _).trans (hb.mono (by simp))
    clear hb
    go_wp2
    go_ret
    exact ⟨rfl, hbel.alloc (by omega) _⟩
  · go_enter Try.func12, Try.ntmps12
    go_wp2_with fail
    refine (find_any op _).mono ?_
    rintro e w1 ⟨rfl, hb⟩
    rw [HR.out]
    unfold RowV.val
    have hB := hb.size
    simp at hB
    have x0 : ∀ c t, (w1.alloc (.cells c t)).cell? ⟨w.heap.size, 0, none⟩ = some (.int .i64 op) := fun c t => (((Below.refl w1.heap.size w1).alloc (Nat.le_refl _) _).cell (p := ⟨w.heap.size, 0, none⟩) (by show w.heap.size < _; omega)).trans ((hb.cell (p := ⟨w.heap.size, 0, none⟩) (by simp)).trans (show _ = some (Value.int .i64 op) by simp))
    have x1 : ∀ c t, (w1.alloc (.cells c t)).cell? ⟨w.heap.size, 1, none⟩ = some (.int .i64 d) := fun c t => (((Below.refl w1.heap.size w1).alloc (Nat.le_refl _) _).cell (p := ⟨w.heap.size, 1, none⟩) (by show w.heap.size < _; omega)).trans ((hb.cell (p := ⟨w.heap.size, 1, none⟩) (by simp)).trans (show _ = some (Value.int .i64 d) by simp))
    have x2 : ∀ c t, (w1.alloc (.cells c t)).cell? ⟨w.heap.size, 2, none⟩ = some (.int .i64 s) := fun c t => (((Below.refl w1.heap.size w1).alloc (Nat.le_refl _) _).cell (p := ⟨w.heap.size, 2, none⟩) (by show w.heap.size < _; omega)).trans ((hb.cell (p := ⟨w.heap.size, 2, none⟩) (by simp)).trans (show _ = some (Value.int .i64 s) by simp))
    have x3 : ∀ c t, (w1.alloc (.cells c t)).cell? ⟨w.heap.size, 3, none⟩ = some (.int .i64 o) := fun c t => (((Below.refl w1.heap.size w1).alloc (Nat.le_refl _) _).cell (p := ⟨w.heap.size, 3, none⟩) (by show w.heap.size < _; omega)).trans ((hb.cell (p := ⟨w.heap.size, 3, none⟩) (by simp)).trans (show _ = some (Value.int .i64 o) by simp))
    have x4 : ∀ c t, (w1.alloc (.cells c t)).cell? ⟨w.heap.size, 4, none⟩ = some (.int .i64 m) := fun c t => (((Below.refl w1.heap.size w1).alloc (Nat.le_refl _) _).cell (p := ⟨w.heap.size, 4, none⟩) (by show w.heap.size < _; omega)).trans ((hb.cell (p := ⟨w.heap.size, 4, none⟩) (by simp)).trans (show _ = some (Value.int .i64 m) by simp))
    have hbel : Below w.heap.size w w1 := ((Below.refl _ _).alloc (Nat.le_refl _) _).trans (hb.mono (by simp))
    clear hb
    have hX : Below w.heap.size w (w1.alloc (.cells #[Value.bool true, Value.string rf, Value.bool rwr, Value.int IntKind.i64 lo, Value.int IntKind.i64 hi] 62)) := hbel.alloc (by omega) _
    have y0 : (w1.alloc (.cells #[Value.bool true, Value.string rf, Value.bool rwr, Value.int IntKind.i64 lo, Value.int IntKind.i64 hi] 62)).cell? ⟨w1.heap.size, 0, none⟩ = some (.bool true) := by simp
    go_wp2_with fail
    refine (atomic_any _ _).mono ?_
    rintro e w' ⟨rfl, rfl⟩
    rw [HFT.out]
    go_upto_region 5 with fail
    go_cut [6] (fun b wx => b = .bool bt ∧ wx = (w1.alloc (.cells #[Value.bool true, Value.string rf, Value.bool rwr, Value.int IntKind.i64 lo, Value.int IntKind.i64 hi] 62)))
    case first =>
      cases c1 : (op == 195) <;> cases c2 : (op == 219)
      all_goals
        go_wp2_with fail
        go_meet
        exact ⟨by rw [← HBT.out]; simp [atB, *], rfl⟩
    case rest =>
      obtain ⟨rfl, rfl⟩ := hcut
      go_upto_region 6 with fail
      go_cut [64] (fun b wx => b = .bool (regB op d s m rwr) ∧ wx = (w1.alloc (.cells #[Value.bool true, Value.string rf, Value.bool rwr, Value.int IntKind.i64 lo, Value.int IntKind.i64 hi] 62)))
      case first =>
        cases q1 : decide (d < 0)
        · skip
          cases q2 : decide (10 < d)
          · skip
            cases q3 : decide (s < 0)
            · skip
              cases q4 : decide (10 < s)
              · skip
                cases rwr
                · skip
                  cases bt
                  · skip
                    as_aux_lemma =>
                      go_wp2_with fail
                      go_meet
                      exact ⟨by simp [regB, HBT.out, HFT.out, *], rfl⟩
                  · skip
                    cases ft
                    · skip
                      as_aux_lemma =>
                        go_wp2_with fail
                        go_meet
                        exact ⟨by simp [regB, HBT.out, HFT.out, *], rfl⟩
                    · skip
                      cases q8 : (s == 10)
                      · skip
                        as_aux_lemma =>
                          go_wp2_with fail
                          go_meet
                          exact ⟨by simp [regB, HBT.out, HFT.out, *], rfl⟩
                      · skip
                        as_aux_lemma =>
                          go_wp2_with fail
                          go_meet
                          exact ⟨by simp [regB, HBT.out, HFT.out, *], rfl⟩
                · skip
                  cases q9 : (d == 10)
                  · skip
                    cases bt
                    · skip
                      as_aux_lemma =>
                        go_wp2_with fail
                        go_meet
                        exact ⟨by simp [regB, HBT.out, HFT.out, *], rfl⟩
                    · skip
                      cases ft
                      · skip
                        as_aux_lemma =>
                          go_wp2_with fail
                          go_meet
                          exact ⟨by simp [regB, HBT.out, HFT.out, *], rfl⟩
                      · skip
                        cases q12 : (s == 10)
                        · skip
                          as_aux_lemma =>
                            go_wp2_with fail
                            go_meet
                            exact ⟨by simp [regB, HBT.out, HFT.out, *], rfl⟩
                        · skip
                          as_aux_lemma =>
                            go_wp2_with fail
                            go_meet
                            exact ⟨by simp [regB, HBT.out, HFT.out, *], rfl⟩
                  · skip
                    as_aux_lemma =>
                      go_wp2_with fail
                      go_meet
                      exact ⟨by simp [regB, HBT.out, HFT.out, *], rfl⟩
              · skip
                as_aux_lemma =>
                  go_wp2_with fail
                  go_meet
                  exact ⟨by simp [regB, HBT.out, HFT.out, *], rfl⟩
            · skip
              as_aux_lemma =>
                go_wp2_with fail
                go_meet
                exact ⟨by simp [regB, HBT.out, HFT.out, *], rfl⟩
          · skip
            as_aux_lemma =>
              go_wp2_with fail
              go_meet
              exact ⟨by simp [regB, HBT.out, HFT.out, *], rfl⟩
        · skip
          as_aux_lemma =>
            go_wp2_with fail
            go_meet
            exact ⟨by simp [regB, HBT.out, HFT.out, *], rfl⟩
      case rest =>
        obtain ⟨rfl, rfl⟩ := hcut
        cases qr : regB op d s m rwr
        · go_upto_region 8 with fail
          go_cut [116] (fun b wx => b = .bool (fieldB op d s o m rf) ∧ wx = (w1.alloc (.cells #[Value.bool true, Value.string rf, Value.bool rwr, Value.int IntKind.i64 lo, Value.int IntKind.i64 hi] 62)))
          case first =>
            go_wp2_with fail
            refine (has_any rf _ _ hf).mono ?_
            rintro e1 w1' ⟨rfl, rfl⟩
            cases g1 : hasB rf 100
            · cases h1 : (d != 0)
              · skip
                go_wp2_with fail
                refine (has_any rf _ _ hf).mono ?_
                rintro e2 w2' ⟨rfl, rfl⟩
                cases g2 : hasB rf 115
                · cases h2 : (s != 0)
                  · skip
                    as_aux_lemma =>
                      go_wp2_with fail
                      refine (has_any rf _ _ hf).mono ?_
                      rintro e3 w3' ⟨rfl, rfl⟩
                      cases g3 : hasB rf 111
                      · cases h3 : (o != 0)
                        · skip
                          go_wp2_with fail
                          refine (has_any rf _ _ hf).mono ?_
                          rintro e4 w4' ⟨rfl, rfl⟩
                          cases g4 : hasB rf 105
                          · cases h4 : (m != 0)
                            · skip
                              cases g5 : (op == 24)
                              · skip
                                go_wp2_with fail
                                go_meet
                                exact ⟨by simp [fieldB, *], rfl⟩
                              · cases h5 : decide (1 < s)
                                · skip
                                  go_wp2_with fail
                                  go_meet
                                  exact ⟨by simp [fieldB, *], rfl⟩
                                · skip
                                  go_wp2_with fail
                                  go_meet
                                  exact ⟨by simp [fieldB, *], rfl⟩
                            · skip
                              go_wp2_with fail
                              go_meet
                              exact ⟨by simp [fieldB, *], rfl⟩
                          · skip
                            cases g6 : (op == 24)
                            · skip
                              go_wp2_with fail
                              go_meet
                              exact ⟨by simp [fieldB, *], rfl⟩
                            · cases h6 : decide (1 < s)
                              · skip
                                go_wp2_with fail
                                go_meet
                                exact ⟨by simp [fieldB, *], rfl⟩
                              · skip
                                go_wp2_with fail
                                go_meet
                                exact ⟨by simp [fieldB, *], rfl⟩
                        · skip
                          go_wp2_with fail
                          go_meet
                          exact ⟨by simp [fieldB, *], rfl⟩
                      · skip
                        go_wp2_with fail
                        refine (has_any rf _ _ hf).mono ?_
                        rintro e7 w7' ⟨rfl, rfl⟩
                        cases g7 : hasB rf 105
                        · cases h7 : (m != 0)
                          · skip
                            cases g8 : (op == 24)
                            · skip
                              go_wp2_with fail
                              go_meet
                              exact ⟨by simp [fieldB, *], rfl⟩
                            · cases h8 : decide (1 < s)
                              · skip
                                go_wp2_with fail
                                go_meet
                                exact ⟨by simp [fieldB, *], rfl⟩
                              · skip
                                go_wp2_with fail
                                go_meet
                                exact ⟨by simp [fieldB, *], rfl⟩
                          · skip
                            go_wp2_with fail
                            go_meet
                            exact ⟨by simp [fieldB, *], rfl⟩
                        · skip
                          cases g9 : (op == 24)
                          · skip
                            go_wp2_with fail
                            go_meet
                            exact ⟨by simp [fieldB, *], rfl⟩
                          · cases h9 : decide (1 < s)
                            · skip
                              go_wp2_with fail
                              go_meet
                              exact ⟨by simp [fieldB, *], rfl⟩
                            · skip
                              go_wp2_with fail
                              go_meet
                              exact ⟨by simp [fieldB, *], rfl⟩
                  · skip
                    go_wp2_with fail
                    go_meet
                    exact ⟨by simp [fieldB, *], rfl⟩
                · skip
                  as_aux_lemma =>
                    go_wp2_with fail
                    refine (has_any rf _ _ hf).mono ?_
                    rintro e10 w10' ⟨rfl, rfl⟩
                    cases g10 : hasB rf 111
                    · cases h10 : (o != 0)
                      · skip
                        go_wp2_with fail
                        refine (has_any rf _ _ hf).mono ?_
                        rintro e11 w11' ⟨rfl, rfl⟩
                        cases g11 : hasB rf 105
                        · cases h11 : (m != 0)
                          · skip
                            cases g12 : (op == 24)
                            · skip
                              go_wp2_with fail
                              go_meet
                              exact ⟨by simp [fieldB, *], rfl⟩
                            · cases h12 : decide (1 < s)
                              · skip
                                go_wp2_with fail
                                go_meet
                                exact ⟨by simp [fieldB, *], rfl⟩
                              · skip
                                go_wp2_with fail
                                go_meet
                                exact ⟨by simp [fieldB, *], rfl⟩
                          · skip
                            go_wp2_with fail
                            go_meet
                            exact ⟨by simp [fieldB, *], rfl⟩
                        · skip
                          cases g13 : (op == 24)
                          · skip
                            go_wp2_with fail
                            go_meet
                            exact ⟨by simp [fieldB, *], rfl⟩
                          · cases h13 : decide (1 < s)
                            · skip
                              go_wp2_with fail
                              go_meet
                              exact ⟨by simp [fieldB, *], rfl⟩
                            · skip
                              go_wp2_with fail
                              go_meet
                              exact ⟨by simp [fieldB, *], rfl⟩
                      · skip
                        go_wp2_with fail
                        go_meet
                        exact ⟨by simp [fieldB, *], rfl⟩
                    · skip
                      go_wp2_with fail
                      refine (has_any rf _ _ hf).mono ?_
                      rintro e14 w14' ⟨rfl, rfl⟩
                      cases g14 : hasB rf 105
                      · cases h14 : (m != 0)
                        · skip
                          cases g15 : (op == 24)
                          · skip
                            go_wp2_with fail
                            go_meet
                            exact ⟨by simp [fieldB, *], rfl⟩
                          · cases h15 : decide (1 < s)
                            · skip
                              go_wp2_with fail
                              go_meet
                              exact ⟨by simp [fieldB, *], rfl⟩
                            · skip
                              go_wp2_with fail
                              go_meet
                              exact ⟨by simp [fieldB, *], rfl⟩
                        · skip
                          go_wp2_with fail
                          go_meet
                          exact ⟨by simp [fieldB, *], rfl⟩
                      · skip
                        cases g16 : (op == 24)
                        · skip
                          go_wp2_with fail
                          go_meet
                          exact ⟨by simp [fieldB, *], rfl⟩
                        · cases h16 : decide (1 < s)
                          · skip
                            go_wp2_with fail
                            go_meet
                            exact ⟨by simp [fieldB, *], rfl⟩
                          · skip
                            go_wp2_with fail
                            go_meet
                            exact ⟨by simp [fieldB, *], rfl⟩
              · skip
                go_wp2_with fail
                go_meet
                exact ⟨by simp [fieldB, *], rfl⟩
            · skip
              go_wp2_with fail
              refine (has_any rf _ _ hf).mono ?_
              rintro e17 w17' ⟨rfl, rfl⟩
              cases g17 : hasB rf 115
              · cases h17 : (s != 0)
                · skip
                  as_aux_lemma =>
                    go_wp2_with fail
                    refine (has_any rf _ _ hf).mono ?_
                    rintro e18 w18' ⟨rfl, rfl⟩
                    cases g18 : hasB rf 111
                    · cases h18 : (o != 0)
                      · skip
                        go_wp2_with fail
                        refine (has_any rf _ _ hf).mono ?_
                        rintro e19 w19' ⟨rfl, rfl⟩
                        cases g19 : hasB rf 105
                        · cases h19 : (m != 0)
                          · skip
                            cases g20 : (op == 24)
                            · skip
                              go_wp2_with fail
                              go_meet
                              exact ⟨by simp [fieldB, *], rfl⟩
                            · cases h20 : decide (1 < s)
                              · skip
                                go_wp2_with fail
                                go_meet
                                exact ⟨by simp [fieldB, *], rfl⟩
                              · skip
                                go_wp2_with fail
                                go_meet
                                exact ⟨by simp [fieldB, *], rfl⟩
                          · skip
                            go_wp2_with fail
                            go_meet
                            exact ⟨by simp [fieldB, *], rfl⟩
                        · skip
                          cases g21 : (op == 24)
                          · skip
                            go_wp2_with fail
                            go_meet
                            exact ⟨by simp [fieldB, *], rfl⟩
                          · cases h21 : decide (1 < s)
                            · skip
                              go_wp2_with fail
                              go_meet
                              exact ⟨by simp [fieldB, *], rfl⟩
                            · skip
                              go_wp2_with fail
                              go_meet
                              exact ⟨by simp [fieldB, *], rfl⟩
                      · skip
                        go_wp2_with fail
                        go_meet
                        exact ⟨by simp [fieldB, *], rfl⟩
                    · skip
                      go_wp2_with fail
                      refine (has_any rf _ _ hf).mono ?_
                      rintro e22 w22' ⟨rfl, rfl⟩
                      cases g22 : hasB rf 105
                      · cases h22 : (m != 0)
                        · skip
                          cases g23 : (op == 24)
                          · skip
                            go_wp2_with fail
                            go_meet
                            exact ⟨by simp [fieldB, *], rfl⟩
                          · cases h23 : decide (1 < s)
                            · skip
                              go_wp2_with fail
                              go_meet
                              exact ⟨by simp [fieldB, *], rfl⟩
                            · skip
                              go_wp2_with fail
                              go_meet
                              exact ⟨by simp [fieldB, *], rfl⟩
                        · skip
                          go_wp2_with fail
                          go_meet
                          exact ⟨by simp [fieldB, *], rfl⟩
                      · skip
                        cases g24 : (op == 24)
                        · skip
                          go_wp2_with fail
                          go_meet
                          exact ⟨by simp [fieldB, *], rfl⟩
                        · cases h24 : decide (1 < s)
                          · skip
                            go_wp2_with fail
                            go_meet
                            exact ⟨by simp [fieldB, *], rfl⟩
                          · skip
                            go_wp2_with fail
                            go_meet
                            exact ⟨by simp [fieldB, *], rfl⟩
                · skip
                  go_wp2_with fail
                  go_meet
                  exact ⟨by simp [fieldB, *], rfl⟩
              · skip
                as_aux_lemma =>
                  go_wp2_with fail
                  refine (has_any rf _ _ hf).mono ?_
                  rintro e25 w25' ⟨rfl, rfl⟩
                  cases g25 : hasB rf 111
                  · cases h25 : (o != 0)
                    · skip
                      go_wp2_with fail
                      refine (has_any rf _ _ hf).mono ?_
                      rintro e26 w26' ⟨rfl, rfl⟩
                      cases g26 : hasB rf 105
                      · cases h26 : (m != 0)
                        · skip
                          cases g27 : (op == 24)
                          · skip
                            go_wp2_with fail
                            go_meet
                            exact ⟨by simp [fieldB, *], rfl⟩
                          · cases h27 : decide (1 < s)
                            · skip
                              go_wp2_with fail
                              go_meet
                              exact ⟨by simp [fieldB, *], rfl⟩
                            · skip
                              go_wp2_with fail
                              go_meet
                              exact ⟨by simp [fieldB, *], rfl⟩
                        · skip
                          go_wp2_with fail
                          go_meet
                          exact ⟨by simp [fieldB, *], rfl⟩
                      · skip
                        cases g28 : (op == 24)
                        · skip
                          go_wp2_with fail
                          go_meet
                          exact ⟨by simp [fieldB, *], rfl⟩
                        · cases h28 : decide (1 < s)
                          · skip
                            go_wp2_with fail
                            go_meet
                            exact ⟨by simp [fieldB, *], rfl⟩
                          · skip
                            go_wp2_with fail
                            go_meet
                            exact ⟨by simp [fieldB, *], rfl⟩
                    · skip
                      go_wp2_with fail
                      go_meet
                      exact ⟨by simp [fieldB, *], rfl⟩
                  · skip
                    go_wp2_with fail
                    refine (has_any rf _ _ hf).mono ?_
                    rintro e29 w29' ⟨rfl, rfl⟩
                    cases g29 : hasB rf 105
                    · cases h29 : (m != 0)
                      · skip
                        cases g30 : (op == 24)
                        · skip
                          go_wp2_with fail
                          go_meet
                          exact ⟨by simp [fieldB, *], rfl⟩
                        · cases h30 : decide (1 < s)
                          · skip
                            go_wp2_with fail
                            go_meet
                            exact ⟨by simp [fieldB, *], rfl⟩
                          · skip
                            go_wp2_with fail
                            go_meet
                            exact ⟨by simp [fieldB, *], rfl⟩
                      · skip
                        go_wp2_with fail
                        go_meet
                        exact ⟨by simp [fieldB, *], rfl⟩
                    · skip
                      cases g31 : (op == 24)
                      · skip
                        go_wp2_with fail
                        go_meet
                        exact ⟨by simp [fieldB, *], rfl⟩
                      · cases h31 : decide (1 < s)
                        · skip
                          go_wp2_with fail
                          go_meet
                          exact ⟨by simp [fieldB, *], rfl⟩
                        · skip
                          go_wp2_with fail
                          go_meet
                          exact ⟨by simp [fieldB, *], rfl⟩
          case rest =>
            obtain ⟨rfl, rfl⟩ := hcut
            cases qf : fieldB op d s o m rf
            · go_upto_region 10 with fail
              go_cut [130] (fun b wx => b = .bool (rangeB op s o m lo hi) ∧ Below w.heap.size w wx)
              case first =>
                have QR := hid qr
                have QF := hid qf
                clear qr qf
                cases q1 : decide (o < -32768)
                · cases q2 : decide (32767 < o)
                  · go_wp2_with fail
                    refine (ranged_any op d s o m ⟨true, rf, rwr, lo, hi⟩ _).mono ?_
                    rintro e w2 ⟨rfl, hbr⟩
                    go_wp2_with fail
                    go_meet
                    exact ⟨by simp [rangeB, q1, q2], hX.trans (hbr.mono (by simp; omega))⟩
                  · go_wp2_with fail
                    go_meet
                    exact ⟨by simp [rangeB, q2], hX⟩
                · go_wp2_with fail
                  go_meet
                  exact ⟨by simp [rangeB, q1], hX⟩
              case rest =>
                obtain ⟨rfl, hw⟩ := hcut
                have QF := hid qf
                have QR := hid qr
                cases qg : rangeB op s o m lo hi
                · have QG := hid qg
                  go_wp2
                  go_ret
                  exact ⟨by simp [chkR, QR.out, QF.out, QG.out], hw⟩
                · have QG := hid qg
                  go_wp2
                  go_ret
                  exact ⟨by simp [chkR, QR.out, QF.out, QG.out], hw⟩
            · have QF := hid qf
              have QR := hid qr
              go_wp2
              go_ret
              exact ⟨by simp [chkR, QR.out, QF.out], hX⟩
        · have QR := hid qr
          go_wp2
          go_ret
          exact ⟨by simp [chkR, QR.out], hX⟩
end Go.Proofs.Ytccjfnkneiggcaa.Insn
