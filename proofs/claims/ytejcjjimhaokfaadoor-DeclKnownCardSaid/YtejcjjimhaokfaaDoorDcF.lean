/-
  The contract of decl's features of a kind: kind by kind.
-/
import Derived.Handy
import Derived.Test.YtejcjjimhaokfaaDoorDcT
namespace Go.Proofs.YtejcjjimhaokfaaDoor.Dcl
open Go.RowKit Go.Proofs.YtejcjjimhaokfaaDoor.Num Go.Proofs.YtejcjjimhaokfaaDoor.Up Go.Proofs.YtejcjjimhaokfaaDoor.Tn
theorem feat_1 (w : World) (hT : Tab w) :
    Calls Tryd.prog 25 #[.int .i64 1] w fun e w' => e = .returned (.tuple #[.agg #[.int .u64 22, .bool false, .bool false, .bool false, .bool false], .bool true]) ∧ Below w.heap.size w w' := by
  have c0 := (hT 5 (by decide)).trans (show tabC[5]? = some (.int .u64 22) from rfl)
  have c1 := (hT 6 (by decide)).trans (show tabC[6]? = some (.bool false) from rfl)
  have c2 := (hT 7 (by decide)).trans (show tabC[7]? = some (.bool false) from rfl)
  have c3 := (hT 8 (by decide)).trans (show tabC[8]? = some (.bool false) from rfl)
  have c4 := (hT 9 (by decide)).trans (show tabC[9]? = some (.bool false) from rfl)
  have h0 := hT.pos
  clear hT
  go_enter Tryd.func25, Tryd.ntmps25
  go_wp2
  go_returns
  exact ⟨rfl, by repeat (first | exact Below.refl _ _ | refine Below.setCell ?_ (by simp) _ | refine Below.alloc ?_ (by simp) _)⟩
theorem feat_2 (w : World) (hT : Tab w) :
    Calls Tryd.prog 25 #[.int .i64 2] w fun e w' => e = .returned (.tuple #[.agg #[.int .u64 22, .bool false, .bool false, .bool false, .bool false], .bool true]) ∧ Below w.heap.size w w' := by
  have c0 := (hT 10 (by decide)).trans (show tabC[10]? = some (.int .u64 22) from rfl)
  have c1 := (hT 11 (by decide)).trans (show tabC[11]? = some (.bool false) from rfl)
  have c2 := (hT 12 (by decide)).trans (show tabC[12]? = some (.bool false) from rfl)
  have c3 := (hT 13 (by decide)).trans (show tabC[13]? = some (.bool false) from rfl)
  have c4 := (hT 14 (by decide)).trans (show tabC[14]? = some (.bool false) from rfl)
  have h0 := hT.pos
  clear hT
  go_enter Tryd.func25, Tryd.ntmps25
  go_wp2
  go_returns
  exact ⟨rfl, by repeat (first | exact Below.refl _ _ | refine Below.setCell ?_ (by simp) _ | refine Below.alloc ?_ (by simp) _)⟩
theorem feat_3 (w : World) (hT : Tab w) :
    Calls Tryd.prog 25 #[.int .i64 3] w fun e w' => e = .returned (.tuple #[.agg #[.int .u64 22, .bool true, .bool false, .bool false, .bool false], .bool true]) ∧ Below w.heap.size w w' := by
  have c0 := (hT 15 (by decide)).trans (show tabC[15]? = some (.int .u64 22) from rfl)
  have c1 := (hT 16 (by decide)).trans (show tabC[16]? = some (.bool true) from rfl)
  have c2 := (hT 17 (by decide)).trans (show tabC[17]? = some (.bool false) from rfl)
  have c3 := (hT 18 (by decide)).trans (show tabC[18]? = some (.bool false) from rfl)
  have c4 := (hT 19 (by decide)).trans (show tabC[19]? = some (.bool false) from rfl)
  have h0 := hT.pos
  clear hT
  go_enter Tryd.func25, Tryd.ntmps25
  go_wp2
  go_returns
  exact ⟨rfl, by repeat (first | exact Below.refl _ _ | refine Below.setCell ?_ (by simp) _ | refine Below.alloc ?_ (by simp) _)⟩
theorem feat_4 (w : World) (hT : Tab w) :
    Calls Tryd.prog 25 #[.int .i64 4] w fun e w' => e = .returned (.tuple #[.agg #[.int .u64 62, .bool false, .bool true, .bool true, .bool false], .bool true]) ∧ Below w.heap.size w w' := by
  have c0 := (hT 20 (by decide)).trans (show tabC[20]? = some (.int .u64 62) from rfl)
  have c1 := (hT 21 (by decide)).trans (show tabC[21]? = some (.bool false) from rfl)
  have c2 := (hT 22 (by decide)).trans (show tabC[22]? = some (.bool true) from rfl)
  have c3 := (hT 23 (by decide)).trans (show tabC[23]? = some (.bool true) from rfl)
  have c4 := (hT 24 (by decide)).trans (show tabC[24]? = some (.bool false) from rfl)
  have h0 := hT.pos
  clear hT
  go_enter Tryd.func25, Tryd.ntmps25
  go_wp2
  go_returns
  exact ⟨rfl, by repeat (first | exact Below.refl _ _ | refine Below.setCell ?_ (by simp) _ | refine Below.alloc ?_ (by simp) _)⟩
theorem feat_5 (w : World) (hT : Tab w) :
    Calls Tryd.prog 25 #[.int .i64 5] w fun e w' => e = .returned (.tuple #[.agg #[.int .u64 62, .bool false, .bool false, .bool false, .bool false], .bool true]) ∧ Below w.heap.size w w' := by
  have c0 := (hT 25 (by decide)).trans (show tabC[25]? = some (.int .u64 62) from rfl)
  have c1 := (hT 26 (by decide)).trans (show tabC[26]? = some (.bool false) from rfl)
  have c2 := (hT 27 (by decide)).trans (show tabC[27]? = some (.bool false) from rfl)
  have c3 := (hT 28 (by decide)).trans (show tabC[28]? = some (.bool false) from rfl)
  have c4 := (hT 29 (by decide)).trans (show tabC[29]? = some (.bool false) from rfl)
  have h0 := hT.pos
  clear hT
  go_enter Tryd.func25, Tryd.ntmps25
  go_wp2
  go_returns
  exact ⟨rfl, by repeat (first | exact Below.refl _ _ | refine Below.setCell ?_ (by simp) _ | refine Below.alloc ?_ (by simp) _)⟩
theorem feat_6 (w : World) (hT : Tab w) :
    Calls Tryd.prog 25 #[.int .i64 6] w fun e w' => e = .returned (.tuple #[.agg #[.int .u64 448, .bool true, .bool false, .bool false, .bool false], .bool true]) ∧ Below w.heap.size w w' := by
  have c0 := (hT 30 (by decide)).trans (show tabC[30]? = some (.int .u64 448) from rfl)
  have c1 := (hT 31 (by decide)).trans (show tabC[31]? = some (.bool true) from rfl)
  have c2 := (hT 32 (by decide)).trans (show tabC[32]? = some (.bool false) from rfl)
  have c3 := (hT 33 (by decide)).trans (show tabC[33]? = some (.bool false) from rfl)
  have c4 := (hT 34 (by decide)).trans (show tabC[34]? = some (.bool false) from rfl)
  have h0 := hT.pos
  clear hT
  go_enter Tryd.func25, Tryd.ntmps25
  go_wp2
  go_returns
  exact ⟨rfl, by repeat (first | exact Below.refl _ _ | refine Below.setCell ?_ (by simp) _ | refine Below.alloc ?_ (by simp) _)⟩
theorem feat_7 (w : World) (hT : Tab w) :
    Calls Tryd.prog 25 #[.int .i64 7] w fun e w' => e = .returned (.tuple #[.agg #[.int .u64 448, .bool true, .bool false, .bool false, .bool false], .bool true]) ∧ Below w.heap.size w w' := by
  have c0 := (hT 35 (by decide)).trans (show tabC[35]? = some (.int .u64 448) from rfl)
  have c1 := (hT 36 (by decide)).trans (show tabC[36]? = some (.bool true) from rfl)
  have c2 := (hT 37 (by decide)).trans (show tabC[37]? = some (.bool false) from rfl)
  have c3 := (hT 38 (by decide)).trans (show tabC[38]? = some (.bool false) from rfl)
  have c4 := (hT 39 (by decide)).trans (show tabC[39]? = some (.bool false) from rfl)
  have h0 := hT.pos
  clear hT
  go_enter Tryd.func25, Tryd.ntmps25
  go_wp2
  go_returns
  exact ⟨rfl, by repeat (first | exact Below.refl _ _ | refine Below.setCell ?_ (by simp) _ | refine Below.alloc ?_ (by simp) _)⟩
theorem feat_8 (w : World) (hT : Tab w) :
    Calls Tryd.prog 25 #[.int .i64 8] w fun e w' => e = .returned (.tuple #[.agg #[.int .u64 320, .bool false, .bool true, .bool false, .bool false], .bool true]) ∧ Below w.heap.size w w' := by
  have c0 := (hT 40 (by decide)).trans (show tabC[40]? = some (.int .u64 320) from rfl)
  have c1 := (hT 41 (by decide)).trans (show tabC[41]? = some (.bool false) from rfl)
  have c2 := (hT 42 (by decide)).trans (show tabC[42]? = some (.bool true) from rfl)
  have c3 := (hT 43 (by decide)).trans (show tabC[43]? = some (.bool false) from rfl)
  have c4 := (hT 44 (by decide)).trans (show tabC[44]? = some (.bool false) from rfl)
  have h0 := hT.pos
  clear hT
  go_enter Tryd.func25, Tryd.ntmps25
  go_wp2
  go_returns
  exact ⟨rfl, by repeat (first | exact Below.refl _ _ | refine Below.setCell ?_ (by simp) _ | refine Below.alloc ?_ (by simp) _)⟩
theorem feat_9 (w : World) (hT : Tab w) :
    Calls Tryd.prog 25 #[.int .i64 9] w fun e w' => e = .returned (.tuple #[.agg #[.int .u64 30, .bool false, .bool false, .bool false, .bool true], .bool true]) ∧ Below w.heap.size w w' := by
  have c0 := (hT 45 (by decide)).trans (show tabC[45]? = some (.int .u64 30) from rfl)
  have c1 := (hT 46 (by decide)).trans (show tabC[46]? = some (.bool false) from rfl)
  have c2 := (hT 47 (by decide)).trans (show tabC[47]? = some (.bool false) from rfl)
  have c3 := (hT 48 (by decide)).trans (show tabC[48]? = some (.bool false) from rfl)
  have c4 := (hT 49 (by decide)).trans (show tabC[49]? = some (.bool true) from rfl)
  have h0 := hT.pos
  clear hT
  go_enter Tryd.func25, Tryd.ntmps25
  go_wp2
  go_returns
  exact ⟨rfl, by repeat (first | exact Below.refl _ _ | refine Below.setCell ?_ (by simp) _ | refine Below.alloc ?_ (by simp) _)⟩
theorem feat_10 (w : World) (hT : Tab w) :
    Calls Tryd.prog 25 #[.int .i64 10] w fun e w' => e = .returned (.tuple #[.agg #[.int .u64 30, .bool false, .bool true, .bool true, .bool true], .bool true]) ∧ Below w.heap.size w w' := by
  have c0 := (hT 50 (by decide)).trans (show tabC[50]? = some (.int .u64 30) from rfl)
  have c1 := (hT 51 (by decide)).trans (show tabC[51]? = some (.bool false) from rfl)
  have c2 := (hT 52 (by decide)).trans (show tabC[52]? = some (.bool true) from rfl)
  have c3 := (hT 53 (by decide)).trans (show tabC[53]? = some (.bool true) from rfl)
  have c4 := (hT 54 (by decide)).trans (show tabC[54]? = some (.bool true) from rfl)
  have h0 := hT.pos
  clear hT
  go_enter Tryd.func25, Tryd.ntmps25
  go_wp2
  go_returns
  exact ⟨rfl, by repeat (first | exact Below.refl _ _ | refine Below.setCell ?_ (by simp) _ | refine Below.alloc ?_ (by simp) _)⟩
theorem feat_no (k : BitVec 64) (w : World) (h : ¬ (1 ≤ ti k ∧ ti k ≤ 10)) :
    Calls Tryd.prog 25 #[.int .i64 (ti k)] w fun e w' => e = .returned (.tuple #[.agg #[.int .u64 0, .bool false, .bool false, .bool false, .bool false], .bool false]) ∧ Below w.heap.size w w' := by
  go_enter Tryd.func25, Tryd.ntmps25
  by_cases h1 : ti k < 1
  · go_wp2
    go_returns
    exact ⟨rfl, by repeat (first | exact Below.refl _ _ | refine Below.setCell ?_ (by simp) _ | refine Below.alloc ?_ (by simp) _)⟩
  · have h2 : ti k > 10 := by omega
    go_wp2
    go_returns
    exact ⟨rfl, by repeat (first | exact Below.refl _ _ | refine Below.setCell ?_ (by simp) _ | refine Below.alloc ?_ (by simp) _)⟩
end Go.Proofs.YtejcjjimhaokfaaDoor.Dcl
