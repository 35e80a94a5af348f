/-
  Contracts of the program's checks of a row's fields: restIsZero.
-/
import Derived.Test.YtpknnmnknaaccaaDevFields
namespace Go.Proofs.Ytpknnmnknaaccaa.Insn
open Go.RowKit Go.Proofs.Ytpknnmnknaaccaa.Num
set_option maxHeartbeats 4000000 in
theorem restIsZero_any (f : FV) (op d s o m : Int) (w : World) :
    Calls Try.prog 47 #[f.val, insnV op d s o m] w fun e w' => e = .returned (.bool (zeroD f d s o m)) ∧ Below w.heap.size w w' := by
  obtain ⟨fd, fs, fo, fm⟩ := f
  unfold FV.val insnV
  obtain ⟨r, hr⟩ : ∃ r, zeroD ⟨fd, fs, fo, fm⟩ d s o m = r := ⟨_, rfl⟩
  rw [hr]
  unfold zeroD at hr
  simp only at hr
  revert hr
  cases a1 : (fd == 0)
  · skip
    cases b1 : (fs == 0)
    · skip
      cases b3 : (fs == 4)
      · skip
        cases fo
        · cases c2 : (o != 0)
          · skip
            cases d1 : (fm == 0)
            · skip
              intro hr
              obtain rfl : true = r := hr
              go_enter Try.func47, Try.ntmps47
              go_wp2
              go_ret
              exact ⟨rfl, two_below _ _ _⟩
            · cases d2 : (m != 0)
              · skip
                intro hr
                obtain rfl : true = r := hr
                go_enter Try.func47, Try.ntmps47
                go_wp2
                go_ret
                exact ⟨rfl, two_below _ _ _⟩
              · skip
                intro hr
                obtain rfl : false = r := hr
                go_enter Try.func47, Try.ntmps47
                go_wp2
                go_ret
                exact ⟨rfl, two_below _ _ _⟩
          · skip
            intro hr
            obtain rfl : false = r := hr
            go_enter Try.func47, Try.ntmps47
            go_wp2
            go_ret
            exact ⟨rfl, two_below _ _ _⟩
        · skip
          cases d1 : (fm == 0)
          · skip
            intro hr
            obtain rfl : true = r := hr
            go_enter Try.func47, Try.ntmps47
            go_wp2
            go_ret
            exact ⟨rfl, two_below _ _ _⟩
          · cases d2 : (m != 0)
            · skip
              intro hr
              obtain rfl : true = r := hr
              go_enter Try.func47, Try.ntmps47
              go_wp2
              go_ret
              exact ⟨rfl, two_below _ _ _⟩
            · skip
              intro hr
              obtain rfl : false = r := hr
              go_enter Try.func47, Try.ntmps47
              go_wp2
              go_ret
              exact ⟨rfl, two_below _ _ _⟩
      · cases b4 : decide (1 < s)
        · skip
          cases fo
          · cases c2 : (o != 0)
            · skip
              cases d1 : (fm == 0)
              · skip
                intro hr
                obtain rfl : true = r := hr
                go_enter Try.func47, Try.ntmps47
                go_wp2
                go_ret
                exact ⟨rfl, two_below _ _ _⟩
              · cases d2 : (m != 0)
                · skip
                  intro hr
                  obtain rfl : true = r := hr
                  go_enter Try.func47, Try.ntmps47
                  go_wp2
                  go_ret
                  exact ⟨rfl, two_below _ _ _⟩
                · skip
                  intro hr
                  obtain rfl : false = r := hr
                  go_enter Try.func47, Try.ntmps47
                  go_wp2
                  go_ret
                  exact ⟨rfl, two_below _ _ _⟩
            · skip
              intro hr
              obtain rfl : false = r := hr
              go_enter Try.func47, Try.ntmps47
              go_wp2
              go_ret
              exact ⟨rfl, two_below _ _ _⟩
          · skip
            cases d1 : (fm == 0)
            · skip
              intro hr
              obtain rfl : true = r := hr
              go_enter Try.func47, Try.ntmps47
              go_wp2
              go_ret
              exact ⟨rfl, two_below _ _ _⟩
            · cases d2 : (m != 0)
              · skip
                intro hr
                obtain rfl : true = r := hr
                go_enter Try.func47, Try.ntmps47
                go_wp2
                go_ret
                exact ⟨rfl, two_below _ _ _⟩
              · skip
                intro hr
                obtain rfl : false = r := hr
                go_enter Try.func47, Try.ntmps47
                go_wp2
                go_ret
                exact ⟨rfl, two_below _ _ _⟩
        · skip
          intro hr
          obtain rfl : false = r := hr
          go_enter Try.func47, Try.ntmps47
          go_wp2
          go_ret
          exact ⟨rfl, two_below _ _ _⟩
    · cases b2 : (s != 0)
      · skip
        cases b3 : (fs == 4)
        · skip
          cases fo
          · cases c2 : (o != 0)
            · skip
              cases d1 : (fm == 0)
              · skip
                intro hr
                obtain rfl : true = r := hr
                go_enter Try.func47, Try.ntmps47
                go_wp2
                go_ret
                exact ⟨rfl, two_below _ _ _⟩
              · cases d2 : (m != 0)
                · skip
                  intro hr
                  obtain rfl : true = r := hr
                  go_enter Try.func47, Try.ntmps47
                  go_wp2
                  go_ret
                  exact ⟨rfl, two_below _ _ _⟩
                · skip
                  intro hr
                  obtain rfl : false = r := hr
                  go_enter Try.func47, Try.ntmps47
                  go_wp2
                  go_ret
                  exact ⟨rfl, two_below _ _ _⟩
            · skip
              intro hr
              obtain rfl : false = r := hr
              go_enter Try.func47, Try.ntmps47
              go_wp2
              go_ret
              exact ⟨rfl, two_below _ _ _⟩
          · skip
            cases d1 : (fm == 0)
            · skip
              intro hr
              obtain rfl : true = r := hr
              go_enter Try.func47, Try.ntmps47
              go_wp2
              go_ret
              exact ⟨rfl, two_below _ _ _⟩
            · cases d2 : (m != 0)
              · skip
                intro hr
                obtain rfl : true = r := hr
                go_enter Try.func47, Try.ntmps47
                go_wp2
                go_ret
                exact ⟨rfl, two_below _ _ _⟩
              · skip
                intro hr
                obtain rfl : false = r := hr
                go_enter Try.func47, Try.ntmps47
                go_wp2
                go_ret
                exact ⟨rfl, two_below _ _ _⟩
        · cases b4 : decide (1 < s)
          · skip
            cases fo
            · cases c2 : (o != 0)
              · skip
                cases d1 : (fm == 0)
                · skip
                  intro hr
                  obtain rfl : true = r := hr
                  go_enter Try.func47, Try.ntmps47
                  go_wp2
                  go_ret
                  exact ⟨rfl, two_below _ _ _⟩
                · cases d2 : (m != 0)
                  · skip
                    intro hr
                    obtain rfl : true = r := hr
                    go_enter Try.func47, Try.ntmps47
                    go_wp2
                    go_ret
                    exact ⟨rfl, two_below _ _ _⟩
                  · skip
                    intro hr
                    obtain rfl : false = r := hr
                    go_enter Try.func47, Try.ntmps47
                    go_wp2
                    go_ret
                    exact ⟨rfl, two_below _ _ _⟩
              · skip
                intro hr
                obtain rfl : false = r := hr
                go_enter Try.func47, Try.ntmps47
                go_wp2
                go_ret
                exact ⟨rfl, two_below _ _ _⟩
            · skip
              cases d1 : (fm == 0)
              · skip
                intro hr
                obtain rfl : true = r := hr
                go_enter Try.func47, Try.ntmps47
                go_wp2
                go_ret
                exact ⟨rfl, two_below _ _ _⟩
              · cases d2 : (m != 0)
                · skip
                  intro hr
                  obtain rfl : true = r := hr
                  go_enter Try.func47, Try.ntmps47
                  go_wp2
                  go_ret
                  exact ⟨rfl, two_below _ _ _⟩
                · skip
                  intro hr
                  obtain rfl : false = r := hr
                  go_enter Try.func47, Try.ntmps47
                  go_wp2
                  go_ret
                  exact ⟨rfl, two_below _ _ _⟩
          · skip
            intro hr
            obtain rfl : false = r := hr
            go_enter Try.func47, Try.ntmps47
            go_wp2
            go_ret
            exact ⟨rfl, two_below _ _ _⟩
      · skip
        intro hr
        obtain rfl : false = r := hr
        go_enter Try.func47, Try.ntmps47
        go_wp2
        go_ret
        exact ⟨rfl, two_below _ _ _⟩
  · cases a2 : (d != 0)
    · skip
      cases b1 : (fs == 0)
      · skip
        cases b3 : (fs == 4)
        · skip
          cases fo
          · cases c2 : (o != 0)
            · skip
              cases d1 : (fm == 0)
              · skip
                intro hr
                obtain rfl : true = r := hr
                go_enter Try.func47, Try.ntmps47
                go_wp2
                go_ret
                exact ⟨rfl, two_below _ _ _⟩
              · cases d2 : (m != 0)
                · skip
                  intro hr
                  obtain rfl : true = r := hr
                  go_enter Try.func47, Try.ntmps47
                  go_wp2
                  go_ret
                  exact ⟨rfl, two_below _ _ _⟩
                · skip
                  intro hr
                  obtain rfl : false = r := hr
                  go_enter Try.func47, Try.ntmps47
                  go_wp2
                  go_ret
                  exact ⟨rfl, two_below _ _ _⟩
            · skip
              intro hr
              obtain rfl : false = r := hr
              go_enter Try.func47, Try.ntmps47
              go_wp2
              go_ret
              exact ⟨rfl, two_below _ _ _⟩
          · skip
            cases d1 : (fm == 0)
            · skip
              intro hr
              obtain rfl : true = r := hr
              go_enter Try.func47, Try.ntmps47
              go_wp2
              go_ret
              exact ⟨rfl, two_below _ _ _⟩
            · cases d2 : (m != 0)
              · skip
                intro hr
                obtain rfl : true = r := hr
                go_enter Try.func47, Try.ntmps47
                go_wp2
                go_ret
                exact ⟨rfl, two_below _ _ _⟩
              · skip
                intro hr
                obtain rfl : false = r := hr
                go_enter Try.func47, Try.ntmps47
                go_wp2
                go_ret
                exact ⟨rfl, two_below _ _ _⟩
        · cases b4 : decide (1 < s)
          · skip
            cases fo
            · cases c2 : (o != 0)
              · skip
                cases d1 : (fm == 0)
                · skip
                  intro hr
                  obtain rfl : true = r := hr
                  go_enter Try.func47, Try.ntmps47
                  go_wp2
                  go_ret
                  exact ⟨rfl, two_below _ _ _⟩
                · cases d2 : (m != 0)
                  · skip
                    intro hr
                    obtain rfl : true = r := hr
                    go_enter Try.func47, Try.ntmps47
                    go_wp2
                    go_ret
                    exact ⟨rfl, two_below _ _ _⟩
                  · skip
                    intro hr
                    obtain rfl : false = r := hr
                    go_enter Try.func47, Try.ntmps47
                    go_wp2
                    go_ret
                    exact ⟨rfl, two_below _ _ _⟩
              · skip
                intro hr
                obtain rfl : false = r := hr
                go_enter Try.func47, Try.ntmps47
                go_wp2
                go_ret
                exact ⟨rfl, two_below _ _ _⟩
            · skip
              cases d1 : (fm == 0)
              · skip
                intro hr
                obtain rfl : true = r := hr
                go_enter Try.func47, Try.ntmps47
                go_wp2
                go_ret
                exact ⟨rfl, two_below _ _ _⟩
              · cases d2 : (m != 0)
                · skip
                  intro hr
                  obtain rfl : true = r := hr
                  go_enter Try.func47, Try.ntmps47
                  go_wp2
                  go_ret
                  exact ⟨rfl, two_below _ _ _⟩
                · skip
                  intro hr
                  obtain rfl : false = r := hr
                  go_enter Try.func47, Try.ntmps47
                  go_wp2
                  go_ret
                  exact ⟨rfl, two_below _ _ _⟩
          · skip
            intro hr
            obtain rfl : false = r := hr
            go_enter Try.func47, Try.ntmps47
            go_wp2
            go_ret
            exact ⟨rfl, two_below _ _ _⟩
      · cases b2 : (s != 0)
        · skip
          cases b3 : (fs == 4)
          · skip
            cases fo
            · cases c2 : (o != 0)
              · skip
                cases d1 : (fm == 0)
                · skip
                  intro hr
                  obtain rfl : true = r := hr
                  go_enter Try.func47, Try.ntmps47
                  go_wp2
                  go_ret
                  exact ⟨rfl, two_below _ _ _⟩
                · cases d2 : (m != 0)
                  · skip
                    intro hr
                    obtain rfl : true = r := hr
                    go_enter Try.func47, Try.ntmps47
                    go_wp2
                    go_ret
                    exact ⟨rfl, two_below _ _ _⟩
                  · skip
                    intro hr
                    obtain rfl : false = r := hr
                    go_enter Try.func47, Try.ntmps47
                    go_wp2
                    go_ret
                    exact ⟨rfl, two_below _ _ _⟩
              · skip
                intro hr
                obtain rfl : false = r := hr
                go_enter Try.func47, Try.ntmps47
                go_wp2
                go_ret
                exact ⟨rfl, two_below _ _ _⟩
            · skip
              cases d1 : (fm == 0)
              · skip
                intro hr
                obtain rfl : true = r := hr
                go_enter Try.func47, Try.ntmps47
                go_wp2
                go_ret
                exact ⟨rfl, two_below _ _ _⟩
              · cases d2 : (m != 0)
                · skip
                  intro hr
                  obtain rfl : true = r := hr
                  go_enter Try.func47, Try.ntmps47
                  go_wp2
                  go_ret
                  exact ⟨rfl, two_below _ _ _⟩
                · skip
                  intro hr
                  obtain rfl : false = r := hr
                  go_enter Try.func47, Try.ntmps47
                  go_wp2
                  go_ret
                  exact ⟨rfl, two_below _ _ _⟩
          · cases b4 : decide (1 < s)
            · skip
              cases fo
              · cases c2 : (o != 0)
                · skip
                  cases d1 : (fm == 0)
                  · skip
                    intro hr
                    obtain rfl : true = r := hr
                    go_enter Try.func47, Try.ntmps47
                    go_wp2
                    go_ret
                    exact ⟨rfl, two_below _ _ _⟩
                  · cases d2 : (m != 0)
                    · skip
                      intro hr
                      obtain rfl : true = r := hr
                      go_enter Try.func47, Try.ntmps47
                      go_wp2
                      go_ret
                      exact ⟨rfl, two_below _ _ _⟩
                    · skip
                      intro hr
                      obtain rfl : false = r := hr
                      go_enter Try.func47, Try.ntmps47
                      go_wp2
                      go_ret
                      exact ⟨rfl, two_below _ _ _⟩
                · skip
                  intro hr
                  obtain rfl : false = r := hr
                  go_enter Try.func47, Try.ntmps47
                  go_wp2
                  go_ret
                  exact ⟨rfl, two_below _ _ _⟩
              · skip
                cases d1 : (fm == 0)
                · skip
                  intro hr
                  obtain rfl : true = r := hr
                  go_enter Try.func47, Try.ntmps47
                  go_wp2
                  go_ret
                  exact ⟨rfl, two_below _ _ _⟩
                · cases d2 : (m != 0)
                  · skip
                    intro hr
                    obtain rfl : true = r := hr
                    go_enter Try.func47, Try.ntmps47
                    go_wp2
                    go_ret
                    exact ⟨rfl, two_below _ _ _⟩
                  · skip
                    intro hr
                    obtain rfl : false = r := hr
                    go_enter Try.func47, Try.ntmps47
                    go_wp2
                    go_ret
                    exact ⟨rfl, two_below _ _ _⟩
            · skip
              intro hr
              obtain rfl : false = r := hr
              go_enter Try.func47, Try.ntmps47
              go_wp2
              go_ret
              exact ⟨rfl, two_below _ _ _⟩
        · skip
          intro hr
          obtain rfl : false = r := hr
          go_enter Try.func47, Try.ntmps47
          go_wp2
          go_ret
          exact ⟨rfl, two_below _ _ _⟩
    · skip
      intro hr
      obtain rfl : false = r := hr
      go_enter Try.func47, Try.ntmps47
      go_wp2
      go_ret
      exact ⟨rfl, two_below _ _ _⟩
end Go.Proofs.Ytpknnmnknaaccaa.Insn
