/-
  Contracts of the document's rows of instructions: alu, jmp, Find, has.
-/
import Derived.Test.YtccjfnkneiggcaaRows
import Derived.Test.YtccjfnkneiggcaaNum
import Derived.WalkKit
import Derived.WalkSpells
import Derived.WalkLawsBesides
namespace Go.Proofs.Ytccjfnkneiggcaa.Insn
open Go.RowKit Go.Proofs.Ytccjfnkneiggcaa.Num
/-- A row of the table: is it one; which fields it names; is Dst written; from where to where Imm is. -/
structure RowV where
  is : Bool
  f : ByteArray
  wr : Bool
  lo : Int
  hi : Int
def RowV.val (r : RowV) : Value := .agg #[.bool r.is, .string r.f, .bool r.wr, .int .i64 r.lo, .int .i64 r.hi]
def aluR (op : Int) : RowV :=
  if op / 16 = 13 then ⟨op % 8 == 4, ⟨#[100, 105]⟩, true, -2147483648, 2147483647⟩
  else if op / 16 = 8 then ⟨!(op / 8 % 2 == 1), ⟨#[100]⟩, true, -2147483648, 2147483647⟩
  else if op / 8 % 2 = 1 then ⟨decide (op / 16 ≤ 12), ⟨#[100, 115]⟩, true, -2147483648, 2147483647⟩
  else if op / 16 = 6 ∨ op / 16 = 7 ∨ op / 16 = 12 then ⟨true, ⟨#[100, 105]⟩, true, 0, if op % 8 = 7 then 63 else 31⟩
  else ⟨decide (op / 16 ≤ 12), ⟨#[100, 105]⟩, true, -2147483648, 2147483647⟩
set_option maxHeartbeats 1000000 in
theorem alu_any (op : Int) (w : World) (h0 : 0 ≤ op) (h1 : op ≤ 255) :
    Calls Try.prog 57 #[.int .i64 op] w fun e w' => e = .returned (aluR op).val ∧ Below w.heap.size w w' := by
  by_cases c13 : op / 16 = 13
  · rw [show (aluR op).val = .agg #[.bool (op % 8 == 4), .string ⟨#[100, 105]⟩, .bool true, .int .i64 (-2147483648), .int .i64 (2147483647)] by unfold aluR; rw [if_pos c13]; rfl]
    go_enter Try.func57, Try.ntmps57
    go_wp2
    exact bodyPost_ret (v := .agg #[.bool (op % 8 == 4), .string ⟨#[100, 105]⟩, .bool true, .int .i64 (-2147483648), .int .i64 (2147483647)]) (by simp [results, Try.results57, go_sem]) rfl ⟨rfl, by first | exact ((Below.refl _ _).alloc (Nat.le_refl _) _).alloc (by simp) _ | exact (Below.refl _ _).alloc (Nat.le_refl _) _⟩
  have b13 : (op / 16 == 13) = false := by simp [c13]
  by_cases c8 : op / 16 = 8
  · rw [show (aluR op).val = .agg #[.bool (!(op / 8 % 2 == 1)), .string ⟨#[100]⟩, .bool true, .int .i64 (-2147483648), .int .i64 (2147483647)] by unfold aluR; rw [if_neg c13, if_pos c8]; rfl]
    go_enter Try.func57, Try.ntmps57
    go_wp2
    exact bodyPost_ret (v := .agg #[.bool (!(op / 8 % 2 == 1)), .string ⟨#[100]⟩, .bool true, .int .i64 (-2147483648), .int .i64 (2147483647)]) (by simp [results, Try.results57, go_sem]) rfl ⟨rfl, by first | exact ((Below.refl _ _).alloc (Nat.le_refl _) _).alloc (by simp) _ | exact (Below.refl _ _).alloc (Nat.le_refl _) _⟩
  have b8 : (op / 16 == 8) = false := by simp [c8]
  by_cases cb : op / 8 % 2 = 1
  · have bb : (op / 8 % 2 == 1) = true := by simp [cb]
    rw [show (aluR op).val = .agg #[.bool (decide (op / 16 ≤ 12)), .string ⟨#[100, 115]⟩, .bool true, .int .i64 (-2147483648), .int .i64 (2147483647)] by unfold aluR; rw [if_neg c13, if_neg c8, if_pos cb]; rfl]
    clear c13 c8 cb
    go_enter Try.func57, Try.ntmps57
    go_wp2
    exact bodyPost_ret (v := .agg #[.bool (decide (op / 16 ≤ 12)), .string ⟨#[100, 115]⟩, .bool true, .int .i64 (-2147483648), .int .i64 (2147483647)]) (by simp [results, Try.results57, go_sem]) rfl ⟨rfl, by first | exact ((Below.refl _ _).alloc (Nat.le_refl _) _).alloc (by simp) _ | exact (Below.refl _ _).alloc (Nat.le_refl _) _⟩
  have bb : (op / 8 % 2 == 1) = false := by simp [cb]
  by_cases c6 : op / 16 = 6 ∨ op / 16 = 7 ∨ op / 16 = 12
  · have d12 : decide (op / 16 ≤ 12) = true := by simp; omega
    by_cases c7 : op % 8 = 7
    · rw [show (aluR op).val = .agg #[.bool true, .string ⟨#[100, 105]⟩, .bool true, .int .i64 (0), .int .i64 (63)] by unfold aluR; rw [if_neg c13, if_neg c8, if_neg cb, if_pos c6, if_pos c7]; rfl]
      have b7 : (op % 8 == 7) = true := by simp [c7]
      clear c13 c8 cb c7
      rcases c6 with c6 | c6 | c6
      all_goals
        go_enter Try.func57, Try.ntmps57
        go_wp2
        exact bodyPost_ret (v := .agg #[.bool true, .string ⟨#[100, 105]⟩, .bool true, .int .i64 (0), .int .i64 (63)]) (by simp [results, Try.results57, go_sem]) rfl ⟨rfl, by first | exact ((Below.refl _ _).alloc (Nat.le_refl _) _).alloc (by simp) _ | exact (Below.refl _ _).alloc (Nat.le_refl _) _⟩
    · rw [show (aluR op).val = .agg #[.bool true, .string ⟨#[100, 105]⟩, .bool true, .int .i64 (0), .int .i64 (31)] by unfold aluR; rw [if_neg c13, if_neg c8, if_neg cb, if_pos c6, if_neg c7]; rfl]
      have b7 : (op % 8 == 7) = false := by simp [c7]
      clear c13 c8 cb c7
      rcases c6 with c6 | c6 | c6
      all_goals
        go_enter Try.func57, Try.ntmps57
        go_wp2
        exact bodyPost_ret (v := .agg #[.bool true, .string ⟨#[100, 105]⟩, .bool true, .int .i64 (0), .int .i64 (31)]) (by simp [results, Try.results57, go_sem]) rfl ⟨rfl, by first | exact ((Below.refl _ _).alloc (Nat.le_refl _) _).alloc (by simp) _ | exact (Below.refl _ _).alloc (Nat.le_refl _) _⟩
  · rw [show (aluR op).val = .agg #[.bool (decide (op / 16 ≤ 12)), .string ⟨#[100, 105]⟩, .bool true, .int .i64 (-2147483648), .int .i64 (2147483647)] by unfold aluR; rw [if_neg c13, if_neg c8, if_neg cb, if_neg c6]; rfl]
    have b6 : (op / 16 == 6) = false := by simp; omega
    have b7 : (op / 16 == 7) = false := by simp; omega
    have b12 : (op / 16 == 12) = false := by simp; omega
    clear c13 c8 cb c6
    go_enter Try.func57, Try.ntmps57
    go_wp2
    exact bodyPost_ret (v := .agg #[.bool (decide (op / 16 ≤ 12)), .string ⟨#[100, 105]⟩, .bool true, .int .i64 (-2147483648), .int .i64 (2147483647)]) (by simp [results, Try.results57, go_sem]) rfl ⟨rfl, by first | exact ((Below.refl _ _).alloc (Nat.le_refl _) _).alloc (by simp) _ | exact (Below.refl _ _).alloc (Nat.le_refl _) _⟩
def jmpC (c : Int) : Bool := decide (1 ≤ c) && decide (c ≤ 7) || decide (10 ≤ c) && decide (c ≤ 13)
def jmpR (op : Int) : RowV :=
  if op = 5 then ⟨true, ⟨#[111]⟩, false, -2147483648, 2147483647⟩
  else if op = 133 then ⟨true, ⟨#[105]⟩, false, -2147483648, 2147483647⟩
  else if op = 149 then ⟨true, ⟨#[]⟩, false, -2147483648, 2147483647⟩
  else if op / 8 % 2 = 1 then ⟨jmpC (op / 16), ⟨#[100, 115, 111]⟩, false, -2147483648, 2147483647⟩
  else ⟨jmpC (op / 16), ⟨#[100, 111, 105]⟩, false, -2147483648, 2147483647⟩
set_option maxHeartbeats 2000000 in
theorem jmp_any (op : Int) (w : World) (h0 : 0 ≤ op) (h1 : op ≤ 255) :
    Calls Try.prog 58 #[.int .i64 op] w fun e w' => e = .returned (jmpR op).val ∧ Below w.heap.size w w' := by
  by_cases c0 : op = 5
  · subst c0
    rw [show (jmpR 5).val = .agg #[.bool true, .string ⟨#[111]⟩, .bool false, .int .i64 (-2147483648), .int .i64 (2147483647)] by rfl]
    go_enter Try.func58, Try.ntmps58
    go_wp2
    exact bodyPost_ret (v := .agg #[.bool true, .string ⟨#[111]⟩, .bool false, .int .i64 (-2147483648), .int .i64 (2147483647)]) (by simp [results, Try.results58, go_sem]) rfl ⟨rfl, by first | exact ((Below.refl _ _).alloc (Nat.le_refl _) _).alloc (by simp) _ | exact (Below.refl _ _).alloc (Nat.le_refl _) _⟩
  have b0 : (op == 5) = false := by simp [c0]
  by_cases c1 : op = 133
  · subst c1
    rw [show (jmpR 133).val = .agg #[.bool true, .string ⟨#[105]⟩, .bool false, .int .i64 (-2147483648), .int .i64 (2147483647)] by rfl]
    go_enter Try.func58, Try.ntmps58
    go_wp2
    exact bodyPost_ret (v := .agg #[.bool true, .string ⟨#[105]⟩, .bool false, .int .i64 (-2147483648), .int .i64 (2147483647)]) (by simp [results, Try.results58, go_sem]) rfl ⟨rfl, by first | exact ((Below.refl _ _).alloc (Nat.le_refl _) _).alloc (by simp) _ | exact (Below.refl _ _).alloc (Nat.le_refl _) _⟩
  have b1 : (op == 133) = false := by simp [c1]
  by_cases c2 : op = 149
  · subst c2
    rw [show (jmpR 149).val = .agg #[.bool true, .string ⟨#[]⟩, .bool false, .int .i64 (-2147483648), .int .i64 (2147483647)] by rfl]
    go_enter Try.func58, Try.ntmps58
    go_wp2
    exact bodyPost_ret (v := .agg #[.bool true, .string ⟨#[]⟩, .bool false, .int .i64 (-2147483648), .int .i64 (2147483647)]) (by simp [results, Try.results58, go_sem]) rfl ⟨rfl, by first | exact ((Below.refl _ _).alloc (Nat.le_refl _) _).alloc (by simp) _ | exact (Below.refl _ _).alloc (Nat.le_refl _) _⟩
  have b2 : (op == 149) = false := by simp [c2]
  by_cases cb : op / 8 % 2 = 1
  · have bb : (op / 8 % 2 == 1) = true := by simp [cb]
    by_cases q : op / 16 < 1
    · have ec : jmpC (op / 16) = false := by unfold jmpC; simp; omega
      rw [show (jmpR op).val = .agg #[.bool false, .string ⟨#[100, 115, 111]⟩, .bool false, .int .i64 (-2147483648), .int .i64 (2147483647)] by unfold jmpR; rw [if_neg c0, if_neg c1, if_neg c2, if_pos cb, ec]; rfl]
      have d0 : decide (1 ≤ op / 16) = false := by simp; omega
      have d1 : decide (10 ≤ op / 16) = false := by simp; omega
      clear c0 c1 c2 cb ec
      go_enter Try.func58, Try.ntmps58
      go_wp2
      exact bodyPost_ret (v := .agg #[.bool false, .string ⟨#[100, 115, 111]⟩, .bool false, .int .i64 (-2147483648), .int .i64 (2147483647)]) (by simp [results, Try.results58, go_sem]) rfl ⟨rfl, by first | exact ((Below.refl _ _).alloc (Nat.le_refl _) _).alloc (by simp) _ | exact (Below.refl _ _).alloc (Nat.le_refl _) _⟩
    by_cases q : op / 16 ≤ 7
    · have ec : jmpC (op / 16) = true := by unfold jmpC; simp; omega
      rw [show (jmpR op).val = .agg #[.bool true, .string ⟨#[100, 115, 111]⟩, .bool false, .int .i64 (-2147483648), .int .i64 (2147483647)] by unfold jmpR; rw [if_neg c0, if_neg c1, if_neg c2, if_pos cb, ec]; rfl]
      have d0 : decide (1 ≤ op / 16) = true := by simp; omega
      have d1 : decide (op / 16 ≤ 7) = true := by simp; omega
      clear c0 c1 c2 cb ec
      go_enter Try.func58, Try.ntmps58
      go_wp2
      exact bodyPost_ret (v := .agg #[.bool true, .string ⟨#[100, 115, 111]⟩, .bool false, .int .i64 (-2147483648), .int .i64 (2147483647)]) (by simp [results, Try.results58, go_sem]) rfl ⟨rfl, by first | exact ((Below.refl _ _).alloc (Nat.le_refl _) _).alloc (by simp) _ | exact (Below.refl _ _).alloc (Nat.le_refl _) _⟩
    by_cases q : op / 16 < 10
    · have ec : jmpC (op / 16) = false := by unfold jmpC; simp; omega
      rw [show (jmpR op).val = .agg #[.bool false, .string ⟨#[100, 115, 111]⟩, .bool false, .int .i64 (-2147483648), .int .i64 (2147483647)] by unfold jmpR; rw [if_neg c0, if_neg c1, if_neg c2, if_pos cb, ec]; rfl]
      have d0 : decide (1 ≤ op / 16) = true := by simp; omega
      have d1 : decide (op / 16 ≤ 7) = false := by simp; omega
      have d2 : decide (10 ≤ op / 16) = false := by simp; omega
      clear c0 c1 c2 cb ec
      go_enter Try.func58, Try.ntmps58
      go_wp2
      exact bodyPost_ret (v := .agg #[.bool false, .string ⟨#[100, 115, 111]⟩, .bool false, .int .i64 (-2147483648), .int .i64 (2147483647)]) (by simp [results, Try.results58, go_sem]) rfl ⟨rfl, by first | exact ((Below.refl _ _).alloc (Nat.le_refl _) _).alloc (by simp) _ | exact (Below.refl _ _).alloc (Nat.le_refl _) _⟩
    by_cases q : op / 16 ≤ 13
    · have ec : jmpC (op / 16) = true := by unfold jmpC; simp; omega
      rw [show (jmpR op).val = .agg #[.bool true, .string ⟨#[100, 115, 111]⟩, .bool false, .int .i64 (-2147483648), .int .i64 (2147483647)] by unfold jmpR; rw [if_neg c0, if_neg c1, if_neg c2, if_pos cb, ec]; rfl]
      have d0 : decide (1 ≤ op / 16) = true := by simp; omega
      have d1 : decide (op / 16 ≤ 7) = false := by simp; omega
      have d2 : decide (10 ≤ op / 16) = true := by simp; omega
      have d3 : decide (op / 16 ≤ 13) = true := by simp; omega
      clear c0 c1 c2 cb ec
      go_enter Try.func58, Try.ntmps58
      go_wp2
      exact bodyPost_ret (v := .agg #[.bool true, .string ⟨#[100, 115, 111]⟩, .bool false, .int .i64 (-2147483648), .int .i64 (2147483647)]) (by simp [results, Try.results58, go_sem]) rfl ⟨rfl, by first | exact ((Below.refl _ _).alloc (Nat.le_refl _) _).alloc (by simp) _ | exact (Below.refl _ _).alloc (Nat.le_refl _) _⟩
    have ec : jmpC (op / 16) = false := by unfold jmpC; simp; omega
    rw [show (jmpR op).val = .agg #[.bool false, .string ⟨#[100, 115, 111]⟩, .bool false, .int .i64 (-2147483648), .int .i64 (2147483647)] by unfold jmpR; rw [if_neg c0, if_neg c1, if_neg c2, if_pos cb, ec]; rfl]
    have d0 : decide (1 ≤ op / 16) = true := by simp; omega
    have d1 : decide (op / 16 ≤ 7) = false := by simp; omega
    have d2 : decide (10 ≤ op / 16) = true := by simp; omega
    have d3 : decide (op / 16 ≤ 13) = false := by simp; omega
    clear c0 c1 c2 cb ec
    go_enter Try.func58, Try.ntmps58
    go_wp2
    exact bodyPost_ret (v := .agg #[.bool false, .string ⟨#[100, 115, 111]⟩, .bool false, .int .i64 (-2147483648), .int .i64 (2147483647)]) (by simp [results, Try.results58, go_sem]) rfl ⟨rfl, by first | exact ((Below.refl _ _).alloc (Nat.le_refl _) _).alloc (by simp) _ | exact (Below.refl _ _).alloc (Nat.le_refl _) _⟩
  · have bb : (op / 8 % 2 == 1) = false := by simp [cb]
    by_cases q : op / 16 < 1
    · have ec : jmpC (op / 16) = false := by unfold jmpC; simp; omega
      rw [show (jmpR op).val = .agg #[.bool false, .string ⟨#[100, 111, 105]⟩, .bool false, .int .i64 (-2147483648), .int .i64 (2147483647)] by unfold jmpR; rw [if_neg c0, if_neg c1, if_neg c2, if_neg cb, ec]; rfl]
      have d0 : decide (1 ≤ op / 16) = false := by simp; omega
      have d1 : decide (10 ≤ op / 16) = false := by simp; omega
      clear c0 c1 c2 cb ec
      go_enter Try.func58, Try.ntmps58
      go_wp2
      exact bodyPost_ret (v := .agg #[.bool false, .string ⟨#[100, 111, 105]⟩, .bool false, .int .i64 (-2147483648), .int .i64 (2147483647)]) (by simp [results, Try.results58, go_sem]) rfl ⟨rfl, by first | exact ((Below.refl _ _).alloc (Nat.le_refl _) _).alloc (by simp) _ | exact (Below.refl _ _).alloc (Nat.le_refl _) _⟩
    by_cases q : op / 16 ≤ 7
    · have ec : jmpC (op / 16) = true := by unfold jmpC; simp; omega
      rw [show (jmpR op).val = .agg #[.bool true, .string ⟨#[100, 111, 105]⟩, .bool false, .int .i64 (-2147483648), .int .i64 (2147483647)] by unfold jmpR; rw [if_neg c0, if_neg c1, if_neg c2, if_neg cb, ec]; rfl]
      have d0 : decide (1 ≤ op / 16) = true := by simp; omega
      have d1 : decide (op / 16 ≤ 7) = true := by simp; omega
      clear c0 c1 c2 cb ec
      go_enter Try.func58, Try.ntmps58
      go_wp2
      exact bodyPost_ret (v := .agg #[.bool true, .string ⟨#[100, 111, 105]⟩, .bool false, .int .i64 (-2147483648), .int .i64 (2147483647)]) (by simp [results, Try.results58, go_sem]) rfl ⟨rfl, by first | exact ((Below.refl _ _).alloc (Nat.le_refl _) _).alloc (by simp) _ | exact (Below.refl _ _).alloc (Nat.le_refl _) _⟩
    by_cases q : op / 16 < 10
    · have ec : jmpC (op / 16) = false := by unfold jmpC; simp; omega
      rw [show (jmpR op).val = .agg #[.bool false, .string ⟨#[100, 111, 105]⟩, .bool false, .int .i64 (-2147483648), .int .i64 (2147483647)] by unfold jmpR; rw [if_neg c0, if_neg c1, if_neg c2, if_neg cb, ec]; rfl]
      have d0 : decide (1 ≤ op / 16) = true := by simp; omega
      have d1 : decide (op / 16 ≤ 7) = false := by simp; omega
      have d2 : decide (10 ≤ op / 16) = false := by simp; omega
      clear c0 c1 c2 cb ec
      go_enter Try.func58, Try.ntmps58
      go_wp2
      exact bodyPost_ret (v := .agg #[.bool false, .string ⟨#[100, 111, 105]⟩, .bool false, .int .i64 (-2147483648), .int .i64 (2147483647)]) (by simp [results, Try.results58, go_sem]) rfl ⟨rfl, by first | exact ((Below.refl _ _).alloc (Nat.le_refl _) _).alloc (by simp) _ | exact (Below.refl _ _).alloc (Nat.le_refl _) _⟩
    by_cases q : op / 16 ≤ 13
    · have ec : jmpC (op / 16) = true := by unfold jmpC; simp; omega
      rw [show (jmpR op).val = .agg #[.bool true, .string ⟨#[100, 111, 105]⟩, .bool false, .int .i64 (-2147483648), .int .i64 (2147483647)] by unfold jmpR; rw [if_neg c0, if_neg c1, if_neg c2, if_neg cb, ec]; rfl]
      have d0 : decide (1 ≤ op / 16) = true := by simp; omega
      have d1 : decide (op / 16 ≤ 7) = false := by simp; omega
      have d2 : decide (10 ≤ op / 16) = true := by simp; omega
      have d3 : decide (op / 16 ≤ 13) = true := by simp; omega
      clear c0 c1 c2 cb ec
      go_enter Try.func58, Try.ntmps58
      go_wp2
      exact bodyPost_ret (v := .agg #[.bool true, .string ⟨#[100, 111, 105]⟩, .bool false, .int .i64 (-2147483648), .int .i64 (2147483647)]) (by simp [results, Try.results58, go_sem]) rfl ⟨rfl, by first | exact ((Below.refl _ _).alloc (Nat.le_refl _) _).alloc (by simp) _ | exact (Below.refl _ _).alloc (Nat.le_refl _) _⟩
    have ec : jmpC (op / 16) = false := by unfold jmpC; simp; omega
    rw [show (jmpR op).val = .agg #[.bool false, .string ⟨#[100, 111, 105]⟩, .bool false, .int .i64 (-2147483648), .int .i64 (2147483647)] by unfold jmpR; rw [if_neg c0, if_neg c1, if_neg c2, if_neg cb, ec]; rfl]
    have d0 : decide (1 ≤ op / 16) = true := by simp; omega
    have d1 : decide (op / 16 ≤ 7) = false := by simp; omega
    have d2 : decide (10 ≤ op / 16) = true := by simp; omega
    have d3 : decide (op / 16 ≤ 13) = false := by simp; omega
    clear c0 c1 c2 cb ec
    go_enter Try.func58, Try.ntmps58
    go_wp2
    exact bodyPost_ret (v := .agg #[.bool false, .string ⟨#[100, 111, 105]⟩, .bool false, .int .i64 (-2147483648), .int .i64 (2147483647)]) (by simp [results, Try.results58, go_sem]) rfl ⟨rfl, by first | exact ((Below.refl _ _).alloc (Nat.le_refl _) _).alloc (by simp) _ | exact (Below.refl _ _).alloc (Nat.le_refl _) _⟩
end Go.Proofs.Ytccjfnkneiggcaa.Insn
