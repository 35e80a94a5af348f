/-
  The walk of the law SpanKnown.
-/
import Derived.Deep.DeepCutAuto
import Derived.Test.YtoojdndfjfmemaaSpF
import Derived.Test.YtoojdndfjfmemaaIf
namespace Go.Proofs.Ytoojdndfjfmemaa.Sp
open Go.RowKit Go.Proofs.Ytoojdndfjfmemaa.Num Go.Proofs.Ytoojdndfjfmemaa.Up
def law_SpanKnown_c0 : List Value :=
  [.int .u64 (tn ((span_Add (fromP 18446744073709551614#64 18446744073709551615#64) (P.mk 2#64 2#64)).lo)), .int .u64 (tn ((span_Add (fromP 18446744073709551614#64 18446744073709551615#64) (P.mk 2#64 2#64)).hi)), .int .u64 (tn ((span_Sub (fromP 5#64 9#64) (P.mk 5#64 5#64)).lo)), .int .u64 (tn ((span_Sub (fromP 5#64 9#64) (P.mk 5#64 5#64)).hi)), .int .u64 (tn ((span_Sub (fromP 5#64 9#64) (P.mk 6#64 6#64)).lo)), .int .u64 (tn ((span_Sub (fromP 5#64 9#64) (P.mk 6#64 6#64)).hi)), .int .u64 (tn (maxU (fromP 4#64 5#64).lo (P.mk 2#64 2#64).lo)), .int .u64 (tn (onesV (maxU (fromP 4#64 5#64).hi (P.mk 2#64 2#64).hi)))] ++ [.int .u64 (tn (0#64)), .int .u64 (tn (onesV (maxU (fromP 4#64 5#64).hi (P.mk 2#64 2#64).hi))), .int .u64 (tn (0#64)), .int .u64 (tn (minU (fromP 4#64 5#64).hi (P.mk 2#64 2#64).hi)), .int .u64 (tn ((span_Div (fromP 7#64 9#64) (fromP 0#64 2#64)).lo)), .int .u64 (tn ((span_Div (fromP 7#64 9#64) (fromP 0#64 2#64)).hi)), .int .u64 (tn ((span_Mod (fromP 7#64 9#64) (P.mk 4#64 4#64)).lo)), .int .u64 (tn ((span_Mod (fromP 7#64 9#64) (P.mk 4#64 4#64)).hi))] ++ [.int .u64 (tn ((span_Cut (fromP 4294967295#64 4294967296#64)).lo)), .int .u64 (tn ((span_Cut (fromP 4294967295#64 4294967296#64)).hi)), .int .u64 (tn ((span_Cut (fromP 4294967299#64 4294967301#64)).lo)), .int .u64 (tn ((span_Cut (fromP 4294967299#64 4294967301#64)).hi)), .int .u64 (tn ((span_Mul (fromP 2#64 3#64) (fromP 4#64 5#64)).lo)), .int .u64 (tn ((span_Mul (fromP 2#64 3#64) (fromP 4#64 5#64)).hi)), .int .u64 (tn ((span_Mul (fromP 0#64 4294967296#64) (fromP 0#64 4294967296#64)).lo)), .int .u64 (tn ((span_Mul (fromP 0#64 4294967296#64) (fromP 0#64 4294967296#64)).hi))] ++ [.int .u64 (tn ((span_Mul (fromP 1#64 3#64) (P.mk (1#64 <<< (62#64 % 64#64).toNat) (1#64 <<< (62#64 % 64#64).toNat))).lo)), .int .u64 (tn ((span_Mul (fromP 1#64 3#64) (P.mk (1#64 <<< (62#64 % 64#64).toNat) (1#64 <<< (62#64 % 64#64).toNat))).hi)), .int .u64 (tn ((span_Mul (fromP 1#64 3#64) (P.mk (1#64 <<< (63#64 % 64#64).toNat) (1#64 <<< (63#64 % 64#64).toNat))).lo)), .int .u64 (tn ((span_Mul (fromP 1#64 3#64) (P.mk (1#64 <<< (63#64 % 64#64).toNat) (1#64 <<< (63#64 % 64#64).toNat))).hi)), .int .u64 (tn ((span_Mul (fromP 1#64 3#64) (P.mk (1#64 <<< (64#64 % 64#64).toNat) (1#64 <<< (64#64 % 64#64).toNat))).lo)), .int .u64 (tn ((span_Mul (fromP 1#64 3#64) (P.mk (1#64 <<< (64#64 % 64#64).toNat) (1#64 <<< (64#64 % 64#64).toNat))).hi)), .int .u64 (tn ((fromP 8#64 17#64).lo >>> (3#64 % 64#64).toNat)), .int .u64 (tn ((fromP 8#64 17#64).hi >>> (3#64 % 64#64).toNat))] ++ [.int .u64 (tn ((span_Div (fromP 7#64 9#64) (P.mk 0#64 0#64)).lo)), .int .u64 (tn ((span_Div (fromP 7#64 9#64) (P.mk 0#64 0#64)).hi)), .int .u64 (tn ((span_Mod (fromP 7#64 9#64) (P.mk 0#64 0#64)).lo)), .int .u64 (tn ((span_Mod (fromP 7#64 9#64) (P.mk 0#64 0#64)).hi)), .int .u64 (tn ((span_Mod (fromP 7#64 9#64) (fromP 10#64 12#64)).lo)), .int .u64 (tn ((span_Mod (fromP 7#64 9#64) (fromP 10#64 12#64)).hi)), .int .u64 (tn ((span_Mod (fromP 7#64 9#64) (fromP 0#64 1#64)).lo)), .int .u64 (tn ((span_Mod (fromP 7#64 9#64) (fromP 0#64 1#64)).hi))] ++ [.int .u64 (tn ((span_ToSpan (P.mk 18446744073709551614#64 18446744073709551615#64)).lo)), .int .u64 (tn ((span_ToSpan (P.mk 18446744073709551614#64 18446744073709551615#64)).hi)), .int .u64 (tn ((span_ToSpan (P.mk 18446744073709551615#64 0#64)).lo)), .int .u64 (tn ((span_ToSpan (P.mk 18446744073709551615#64 0#64)).hi)), .int .u64 (tn ((P.mk 4#64 9#64).lo)), .int .u64 (tn ((P.mk 4#64 9#64).lo ||| (P.mk 4#64 9#64).hi)), .int .u64 (tn (maxU (P.mk 0#64 18446744073709551615#64).lo (P.mk 0#64 0#64).lo)), .int .u64 (tn (onesV (maxU (P.mk 0#64 18446744073709551615#64).hi (P.mk 0#64 0#64).hi)))] ++ [.int .u64 (tn ((span_Sub (P.mk 0#64 0#64) (fromP 1#64 2#64)).lo)), .int .u64 (tn ((span_Sub (P.mk 0#64 0#64) (fromP 1#64 2#64)).hi))]
def law_SpanKnown_c1 : List Value :=
  [.int .u64 (tn ((fromP 0#64 1#64).lo)), .int .u64 (tn ((fromP 0#64 1#64).hi)), .int .u64 (tn ((fromP 0#64 4#64).lo)), .int .u64 (tn ((fromP 0#64 4#64).hi)), .int .u64 (tn (0#64)), .int .u64 (tn (18446744073709551615#64)), .int .u64 (tn ((fromP 4#64 7#64).lo)), .int .u64 (tn ((fromP 4#64 7#64).hi))] ++ [.int .u64 (tn ((fromP 0#64 7#64).lo)), .int .u64 (tn ((fromP 0#64 7#64).hi)), .int .u64 (tn ((fromP 0#64 2#64).lo)), .int .u64 (tn ((fromP 0#64 2#64).hi)), .int .u64 (tn ((fromP 0#64 9#64).lo)), .int .u64 (tn ((fromP 0#64 9#64).hi)), .int .u64 (tn ((fromP 0#64 3#64).lo)), .int .u64 (tn ((fromP 0#64 3#64).hi))] ++ [.int .u64 (tn ((fromP 0#64 4294967295#64).lo)), .int .u64 (tn ((fromP 0#64 4294967295#64).hi)), .int .u64 (tn ((fromP 3#64 5#64).lo)), .int .u64 (tn ((fromP 3#64 5#64).hi)), .int .u64 (tn ((fromP 8#64 15#64).lo)), .int .u64 (tn ((fromP 8#64 15#64).hi)), .int .u64 (tn (0#64)), .int .u64 (tn (18446744073709551615#64))] ++ [.int .u64 (tn ((fromP 4611686018427387904#64 13835058055282163712#64).lo)), .int .u64 (tn ((fromP 4611686018427387904#64 13835058055282163712#64).hi)), .int .u64 (tn (0#64)), .int .u64 (tn (18446744073709551615#64)), .int .u64 (tn ((fromP 1#64 3#64).lo)), .int .u64 (tn ((fromP 1#64 3#64).hi)), .int .u64 (tn ((fromP 1#64 2#64).lo)), .int .u64 (tn ((fromP 1#64 2#64).hi))] ++ [.int .u64 (tn (0#64)), .int .u64 (tn (0#64)), .int .u64 (tn ((fromP 7#64 9#64).lo)), .int .u64 (tn ((fromP 7#64 9#64).hi)), .int .u64 (tn ((fromP 7#64 9#64).lo)), .int .u64 (tn ((fromP 7#64 9#64).hi)), .int .u64 (tn ((fromP 0#64 9#64).lo)), .int .u64 (tn ((fromP 0#64 9#64).hi))] ++ [.int .u64 (tn ((fromP 18446744073709551614#64 18446744073709551615#64).lo)), .int .u64 (tn ((fromP 18446744073709551614#64 18446744073709551615#64).hi)), .int .u64 (tn (0#64)), .int .u64 (tn (18446744073709551615#64)), .int .u64 (tn ((fromP 4#64 13#64).lo)), .int .u64 (tn ((fromP 4#64 13#64).hi)), .int .u64 (tn (0#64)), .int .u64 (tn (18446744073709551615#64))] ++ [.int .u64 (tn ((fromP 18446744073709551614#64 18446744073709551615#64).lo)), .int .u64 (tn ((fromP 18446744073709551614#64 18446744073709551615#64).hi))]
set_option maxRecDepth 100000 in
set_option maxHeartbeats 8000000 in
theorem spanKnown   (w : World) :
    Calls Try.prog 10 #[] w fun e w' => e = .returned (.bool true) ∧ Below w.heap.size w w' := by
  go_enter Try.func10, Try.ntmps10
  have HS := hid (st_nil w)
  -- region 1
  go_upto_region 1 with fail
  refine lin_begin (St w []) rfl HS.out ?_
  refine lin_call (i := 0) (f := 79) (args := #[.int .u64 (tn (18446744073709551614#64)), .int .u64 (tn (18446744073709551615#64))]) (v := .agg #[.int .u64 (tn ((fromP 18446744073709551614#64 18446744073709551615#64).lo)), .int .u64 (tn ((fromP 18446744073709551614#64 18446744073709551615#64).hi))]) (st_ups _ _) rfl rfl (by rfl) (fun x hx => by kernel_rfl) (by intro x hx; exact fromP_any 18446744073709551614#64 18446744073709551615#64 _) ?_
  simp only [List.set_cons_succ, List.set_cons_zero]
  refine lin_call (i := 1) (f := 15) (args := #[.int .u64 (tn (2#64))]) (v := .agg #[.int .u64 (tn (2#64)), .int .u64 (tn (2#64))]) (st_ups _ _) rfl rfl (by rfl) (fun x hx => by kernel_rfl) (by intro x hx; exact span_Of_any 2#64 _) ?_
  simp only [List.set_cons_succ, List.set_cons_zero]
  refine lin_call (i := 2) (f := 25) (args := #[.agg #[.int .u64 (tn ((fromP 18446744073709551614#64 18446744073709551615#64).lo)), .int .u64 (tn ((fromP 18446744073709551614#64 18446744073709551615#64).hi))], .agg #[.int .u64 (tn (2#64)), .int .u64 (tn (2#64))]]) (v := .agg #[.int .u64 (tn ((span_Add (fromP 18446744073709551614#64 18446744073709551615#64) (P.mk 2#64 2#64)).lo)), .int .u64 (tn ((span_Add (fromP 18446744073709551614#64 18446744073709551615#64) (P.mk 2#64 2#64)).hi))]) (st_ups _ _) rfl rfl (by rfl) (fun x hx => by kernel_rfl) (by intro x hx; exact span_Add_any (fromP 18446744073709551614#64 18446744073709551615#64) (P.mk 2#64 2#64) _) ?_
  simp only [List.set_cons_succ, List.set_cons_zero]
  refine lin_call (i := 3) (f := 79) (args := #[.int .u64 (tn (5#64)), .int .u64 (tn (9#64))]) (v := .agg #[.int .u64 (tn ((fromP 5#64 9#64).lo)), .int .u64 (tn ((fromP 5#64 9#64).hi))]) (st_ups _ _) rfl rfl (by rfl) (fun x hx => by kernel_rfl) (by intro x hx; exact fromP_any 5#64 9#64 _) ?_
  simp only [List.set_cons_succ, List.set_cons_zero]
  refine lin_call (i := 4) (f := 15) (args := #[.int .u64 (tn (5#64))]) (v := .agg #[.int .u64 (tn (5#64)), .int .u64 (tn (5#64))]) (st_ups _ _) rfl rfl (by rfl) (fun x hx => by kernel_rfl) (by intro x hx; exact span_Of_any 5#64 _) ?_
  simp only [List.set_cons_succ, List.set_cons_zero]
  refine lin_call (i := 5) (f := 27) (args := #[.agg #[.int .u64 (tn ((fromP 5#64 9#64).lo)), .int .u64 (tn ((fromP 5#64 9#64).hi))], .agg #[.int .u64 (tn (5#64)), .int .u64 (tn (5#64))]]) (v := .agg #[.int .u64 (tn ((span_Sub (fromP 5#64 9#64) (P.mk 5#64 5#64)).lo)), .int .u64 (tn ((span_Sub (fromP 5#64 9#64) (P.mk 5#64 5#64)).hi))]) (st_ups _ _) rfl rfl (by rfl) (fun x hx => by kernel_rfl) (by intro x hx; exact span_Sub_any (fromP 5#64 9#64) (P.mk 5#64 5#64) _) ?_
  simp only [List.set_cons_succ, List.set_cons_zero]
  refine lin_call (i := 6) (f := 79) (args := #[.int .u64 (tn (5#64)), .int .u64 (tn (9#64))]) (v := .agg #[.int .u64 (tn ((fromP 5#64 9#64).lo)), .int .u64 (tn ((fromP 5#64 9#64).hi))]) (st_ups _ _) rfl rfl (by rfl) (fun x hx => by kernel_rfl) (by intro x hx; exact fromP_any 5#64 9#64 _) ?_
  simp only [List.set_cons_succ, List.set_cons_zero]
  refine lin_call (i := 7) (f := 15) (args := #[.int .u64 (tn (6#64))]) (v := .agg #[.int .u64 (tn (6#64)), .int .u64 (tn (6#64))]) (st_ups _ _) rfl rfl (by rfl) (fun x hx => by kernel_rfl) (by intro x hx; exact span_Of_any 6#64 _) ?_
  simp only [List.set_cons_succ, List.set_cons_zero]
  refine lin_call (i := 8) (f := 27) (args := #[.agg #[.int .u64 (tn ((fromP 5#64 9#64).lo)), .int .u64 (tn ((fromP 5#64 9#64).hi))], .agg #[.int .u64 (tn (6#64)), .int .u64 (tn (6#64))]]) (v := .agg #[.int .u64 (tn ((span_Sub (fromP 5#64 9#64) (P.mk 6#64 6#64)).lo)), .int .u64 (tn ((span_Sub (fromP 5#64 9#64) (P.mk 6#64 6#64)).hi))]) (st_ups _ _) rfl rfl (by rfl) (fun x hx => by kernel_rfl) (by intro x hx; exact span_Sub_any (fromP 5#64 9#64) (P.mk 6#64 6#64) _) ?_
  simp only [List.set_cons_succ, List.set_cons_zero]
  refine lin_call (i := 9) (f := 79) (args := #[.int .u64 (tn (4#64)), .int .u64 (tn (5#64))]) (v := .agg #[.int .u64 (tn ((fromP 4#64 5#64).lo)), .int .u64 (tn ((fromP 4#64 5#64).hi))]) (st_ups _ _) rfl rfl (by rfl) (fun x hx => by kernel_rfl) (by intro x hx; exact fromP_any 4#64 5#64 _) ?_
  simp only [List.set_cons_succ, List.set_cons_zero]
  refine lin_call (i := 10) (f := 15) (args := #[.int .u64 (tn (2#64))]) (v := .agg #[.int .u64 (tn (2#64)), .int .u64 (tn (2#64))]) (st_ups _ _) rfl rfl (by rfl) (fun x hx => by kernel_rfl) (by intro x hx; exact span_Of_any 2#64 _) ?_
  simp only [List.set_cons_succ, List.set_cons_zero]
  refine lin_call (i := 11) (f := 37) (args := #[.agg #[.int .u64 (tn ((fromP 4#64 5#64).lo)), .int .u64 (tn ((fromP 4#64 5#64).hi))], .agg #[.int .u64 (tn (2#64)), .int .u64 (tn (2#64))]]) (v := .agg #[.int .u64 (tn (maxU (fromP 4#64 5#64).lo (P.mk 2#64 2#64).lo)), .int .u64 (tn (onesV (maxU (fromP 4#64 5#64).hi (P.mk 2#64 2#64).hi)))]) (st_ups _ _) rfl rfl (by rfl) (fun x hx => by kernel_rfl) (by intro x hx; exact span_Or_any (fromP 4#64 5#64) (P.mk 2#64 2#64) _) ?_
  simp only [List.set_cons_succ, List.set_cons_zero]
  refine lin_call (i := 12) (f := 79) (args := #[.int .u64 (tn (4#64)), .int .u64 (tn (5#64))]) (v := .agg #[.int .u64 (tn ((fromP 4#64 5#64).lo)), .int .u64 (tn ((fromP 4#64 5#64).hi))]) (st_ups _ _) rfl rfl (by rfl) (fun x hx => by kernel_rfl) (by intro x hx; exact fromP_any 4#64 5#64 _) ?_
  simp only [List.set_cons_succ, List.set_cons_zero]
  refine lin_call (i := 13) (f := 15) (args := #[.int .u64 (tn (2#64))]) (v := .agg #[.int .u64 (tn (2#64)), .int .u64 (tn (2#64))]) (st_ups _ _) rfl rfl (by rfl) (fun x hx => by kernel_rfl) (by intro x hx; exact span_Of_any 2#64 _) ?_
  simp only [List.set_cons_succ, List.set_cons_zero]
  refine lin_call (i := 14) (f := 39) (args := #[.agg #[.int .u64 (tn ((fromP 4#64 5#64).lo)), .int .u64 (tn ((fromP 4#64 5#64).hi))], .agg #[.int .u64 (tn (2#64)), .int .u64 (tn (2#64))]]) (v := .agg #[.int .u64 (tn (0#64)), .int .u64 (tn (onesV (maxU (fromP 4#64 5#64).hi (P.mk 2#64 2#64).hi)))]) (st_ups _ _) rfl rfl (by rfl) (fun x hx => by kernel_rfl) (by intro x hx; exact span_Xor_any (fromP 4#64 5#64) (P.mk 2#64 2#64) _) ?_
  simp only [List.set_cons_succ, List.set_cons_zero]
  refine lin_call (i := 15) (f := 79) (args := #[.int .u64 (tn (4#64)), .int .u64 (tn (5#64))]) (v := .agg #[.int .u64 (tn ((fromP 4#64 5#64).lo)), .int .u64 (tn ((fromP 4#64 5#64).hi))]) (st_ups _ _) rfl rfl (by rfl) (fun x hx => by kernel_rfl) (by intro x hx; exact fromP_any 4#64 5#64 _) ?_
  simp only [List.set_cons_succ, List.set_cons_zero]
  refine lin_call (i := 16) (f := 15) (args := #[.int .u64 (tn (2#64))]) (v := .agg #[.int .u64 (tn (2#64)), .int .u64 (tn (2#64))]) (st_ups _ _) rfl rfl (by rfl) (fun x hx => by kernel_rfl) (by intro x hx; exact span_Of_any 2#64 _) ?_
  simp only [List.set_cons_succ, List.set_cons_zero]
  refine lin_call (i := 17) (f := 35) (args := #[.agg #[.int .u64 (tn ((fromP 4#64 5#64).lo)), .int .u64 (tn ((fromP 4#64 5#64).hi))], .agg #[.int .u64 (tn (2#64)), .int .u64 (tn (2#64))]]) (v := .agg #[.int .u64 (tn (0#64)), .int .u64 (tn (minU (fromP 4#64 5#64).hi (P.mk 2#64 2#64).hi))]) (st_ups _ _) rfl rfl (by rfl) (fun x hx => by kernel_rfl) (by intro x hx; exact span_And_any (fromP 4#64 5#64) (P.mk 2#64 2#64) _) ?_
  simp only [List.set_cons_succ, List.set_cons_zero]
  refine lin_call (i := 18) (f := 79) (args := #[.int .u64 (tn (7#64)), .int .u64 (tn (9#64))]) (v := .agg #[.int .u64 (tn ((fromP 7#64 9#64).lo)), .int .u64 (tn ((fromP 7#64 9#64).hi))]) (st_ups _ _) rfl rfl (by rfl) (fun x hx => by kernel_rfl) (by intro x hx; exact fromP_any 7#64 9#64 _) ?_
  simp only [List.set_cons_succ, List.set_cons_zero]
  refine lin_call (i := 19) (f := 79) (args := #[.int .u64 (tn (0#64)), .int .u64 (tn (2#64))]) (v := .agg #[.int .u64 (tn ((fromP 0#64 2#64).lo)), .int .u64 (tn ((fromP 0#64 2#64).hi))]) (st_ups _ _) rfl rfl (by rfl) (fun x hx => by kernel_rfl) (by intro x hx; exact fromP_any 0#64 2#64 _) ?_
  simp only [List.set_cons_succ, List.set_cons_zero]
  refine lin_call (i := 20) (f := 31) (args := #[.agg #[.int .u64 (tn ((fromP 7#64 9#64).lo)), .int .u64 (tn ((fromP 7#64 9#64).hi))], .agg #[.int .u64 (tn ((fromP 0#64 2#64).lo)), .int .u64 (tn ((fromP 0#64 2#64).hi))]]) (v := .agg #[.int .u64 (tn ((span_Div (fromP 7#64 9#64) (fromP 0#64 2#64)).lo)), .int .u64 (tn ((span_Div (fromP 7#64 9#64) (fromP 0#64 2#64)).hi))]) (st_ups _ _) rfl rfl (by rfl) (fun x hx => by kernel_rfl) (by intro x hx; exact span_Div_any (fromP 7#64 9#64) (fromP 0#64 2#64) _) ?_
  simp only [List.set_cons_succ, List.set_cons_zero]
  refine lin_call (i := 21) (f := 79) (args := #[.int .u64 (tn (7#64)), .int .u64 (tn (9#64))]) (v := .agg #[.int .u64 (tn ((fromP 7#64 9#64).lo)), .int .u64 (tn ((fromP 7#64 9#64).hi))]) (st_ups _ _) rfl rfl (by rfl) (fun x hx => by kernel_rfl) (by intro x hx; exact fromP_any 7#64 9#64 _) ?_
  simp only [List.set_cons_succ, List.set_cons_zero]
  refine lin_call (i := 22) (f := 15) (args := #[.int .u64 (tn (4#64))]) (v := .agg #[.int .u64 (tn (4#64)), .int .u64 (tn (4#64))]) (st_ups _ _) rfl rfl (by rfl) (fun x hx => by kernel_rfl) (by intro x hx; exact span_Of_any 4#64 _) ?_
  simp only [List.set_cons_succ, List.set_cons_zero]
  refine lin_call (i := 23) (f := 33) (args := #[.agg #[.int .u64 (tn ((fromP 7#64 9#64).lo)), .int .u64 (tn ((fromP 7#64 9#64).hi))], .agg #[.int .u64 (tn (4#64)), .int .u64 (tn (4#64))]]) (v := .agg #[.int .u64 (tn ((span_Mod (fromP 7#64 9#64) (P.mk 4#64 4#64)).lo)), .int .u64 (tn ((span_Mod (fromP 7#64 9#64) (P.mk 4#64 4#64)).hi))]) (st_ups _ _) rfl rfl (by rfl) (fun x hx => by kernel_rfl) (by intro x hx; exact span_Mod_any (fromP 7#64 9#64) (P.mk 4#64 4#64) _) ?_
  simp only [List.set_cons_succ, List.set_cons_zero]
  refine lin_call (i := 24) (f := 79) (args := #[.int .u64 (tn (4294967295#64)), .int .u64 (tn (4294967296#64))]) (v := .agg #[.int .u64 (tn ((fromP 4294967295#64 4294967296#64).lo)), .int .u64 (tn ((fromP 4294967295#64 4294967296#64).hi))]) (st_ups _ _) rfl rfl (by rfl) (fun x hx => by kernel_rfl) (by intro x hx; exact fromP_any 4294967295#64 4294967296#64 _) ?_
  simp only [List.set_cons_succ, List.set_cons_zero]
  refine lin_call (i := 25) (f := 45) (args := #[.agg #[.int .u64 (tn ((fromP 4294967295#64 4294967296#64).lo)), .int .u64 (tn ((fromP 4294967295#64 4294967296#64).hi))]]) (v := .agg #[.int .u64 (tn ((span_Cut (fromP 4294967295#64 4294967296#64)).lo)), .int .u64 (tn ((span_Cut (fromP 4294967295#64 4294967296#64)).hi))]) (st_ups _ _) rfl rfl (by rfl) (fun x hx => by kernel_rfl) (by intro x hx; exact span_Cut_any (fromP 4294967295#64 4294967296#64) _) ?_
  simp only [List.set_cons_succ, List.set_cons_zero]
  refine lin_call (i := 26) (f := 79) (args := #[.int .u64 (tn (4294967299#64)), .int .u64 (tn (4294967301#64))]) (v := .agg #[.int .u64 (tn ((fromP 4294967299#64 4294967301#64).lo)), .int .u64 (tn ((fromP 4294967299#64 4294967301#64).hi))]) (st_ups _ _) rfl rfl (by rfl) (fun x hx => by kernel_rfl) (by intro x hx; exact fromP_any 4294967299#64 4294967301#64 _) ?_
  simp only [List.set_cons_succ, List.set_cons_zero]
  refine lin_call (i := 27) (f := 45) (args := #[.agg #[.int .u64 (tn ((fromP 4294967299#64 4294967301#64).lo)), .int .u64 (tn ((fromP 4294967299#64 4294967301#64).hi))]]) (v := .agg #[.int .u64 (tn ((span_Cut (fromP 4294967299#64 4294967301#64)).lo)), .int .u64 (tn ((span_Cut (fromP 4294967299#64 4294967301#64)).hi))]) (st_ups _ _) rfl rfl (by rfl) (fun x hx => by kernel_rfl) (by intro x hx; exact span_Cut_any (fromP 4294967299#64 4294967301#64) _) ?_
  simp only [List.set_cons_succ, List.set_cons_zero]
  refine lin_call (i := 28) (f := 79) (args := #[.int .u64 (tn (2#64)), .int .u64 (tn (3#64))]) (v := .agg #[.int .u64 (tn ((fromP 2#64 3#64).lo)), .int .u64 (tn ((fromP 2#64 3#64).hi))]) (st_ups _ _) rfl rfl (by rfl) (fun x hx => by kernel_rfl) (by intro x hx; exact fromP_any 2#64 3#64 _) ?_
  simp only [List.set_cons_succ, List.set_cons_zero]
  refine lin_call (i := 29) (f := 79) (args := #[.int .u64 (tn (4#64)), .int .u64 (tn (5#64))]) (v := .agg #[.int .u64 (tn ((fromP 4#64 5#64).lo)), .int .u64 (tn ((fromP 4#64 5#64).hi))]) (st_ups _ _) rfl rfl (by rfl) (fun x hx => by kernel_rfl) (by intro x hx; exact fromP_any 4#64 5#64 _) ?_
  simp only [List.set_cons_succ, List.set_cons_zero]
  refine lin_call (i := 30) (f := 29) (args := #[.agg #[.int .u64 (tn ((fromP 2#64 3#64).lo)), .int .u64 (tn ((fromP 2#64 3#64).hi))], .agg #[.int .u64 (tn ((fromP 4#64 5#64).lo)), .int .u64 (tn ((fromP 4#64 5#64).hi))]]) (v := .agg #[.int .u64 (tn ((span_Mul (fromP 2#64 3#64) (fromP 4#64 5#64)).lo)), .int .u64 (tn ((span_Mul (fromP 2#64 3#64) (fromP 4#64 5#64)).hi))]) (st_ups _ _) rfl rfl (by rfl) (fun x hx => by kernel_rfl) (by intro x hx; exact span_Mul_any (fromP 2#64 3#64) (fromP 4#64 5#64) _) ?_
  simp only [List.set_cons_succ, List.set_cons_zero]
  refine lin_call (i := 31) (f := 79) (args := #[.int .u64 (tn (0#64)), .int .u64 (tn (4294967296#64))]) (v := .agg #[.int .u64 (tn ((fromP 0#64 4294967296#64).lo)), .int .u64 (tn ((fromP 0#64 4294967296#64).hi))]) (st_ups _ _) rfl rfl (by rfl) (fun x hx => by kernel_rfl) (by intro x hx; exact fromP_any 0#64 4294967296#64 _) ?_
  simp only [List.set_cons_succ, List.set_cons_zero]
  refine lin_call (i := 32) (f := 79) (args := #[.int .u64 (tn (0#64)), .int .u64 (tn (4294967296#64))]) (v := .agg #[.int .u64 (tn ((fromP 0#64 4294967296#64).lo)), .int .u64 (tn ((fromP 0#64 4294967296#64).hi))]) (st_ups _ _) rfl rfl (by rfl) (fun x hx => by kernel_rfl) (by intro x hx; exact fromP_any 0#64 4294967296#64 _) ?_
  simp only [List.set_cons_succ, List.set_cons_zero]
  refine lin_call (i := 33) (f := 29) (args := #[.agg #[.int .u64 (tn ((fromP 0#64 4294967296#64).lo)), .int .u64 (tn ((fromP 0#64 4294967296#64).hi))], .agg #[.int .u64 (tn ((fromP 0#64 4294967296#64).lo)), .int .u64 (tn ((fromP 0#64 4294967296#64).hi))]]) (v := .agg #[.int .u64 (tn ((span_Mul (fromP 0#64 4294967296#64) (fromP 0#64 4294967296#64)).lo)), .int .u64 (tn ((span_Mul (fromP 0#64 4294967296#64) (fromP 0#64 4294967296#64)).hi))]) (st_ups _ _) rfl rfl (by rfl) (fun x hx => by kernel_rfl) (by intro x hx; exact span_Mul_any (fromP 0#64 4294967296#64) (fromP 0#64 4294967296#64) _) ?_
  simp only [List.set_cons_succ, List.set_cons_zero]
  refine lin_call (i := 34) (f := 79) (args := #[.int .u64 (tn (1#64)), .int .u64 (tn (3#64))]) (v := .agg #[.int .u64 (tn ((fromP 1#64 3#64).lo)), .int .u64 (tn ((fromP 1#64 3#64).hi))]) (st_ups _ _) rfl rfl (by rfl) (fun x hx => by kernel_rfl) (by intro x hx; exact fromP_any 1#64 3#64 _) ?_
  simp only [List.set_cons_succ, List.set_cons_zero]
  refine lin_call (i := 35) (f := 41) (args := #[.agg #[.int .u64 (tn ((fromP 1#64 3#64).lo)), .int .u64 (tn ((fromP 1#64 3#64).hi))], .int .i64 (ti (62#64))]) (v := .agg #[.int .u64 (tn ((span_Mul (fromP 1#64 3#64) (P.mk (1#64 <<< (62#64 % 64#64).toNat) (1#64 <<< (62#64 % 64#64).toNat))).lo)), .int .u64 (tn ((span_Mul (fromP 1#64 3#64) (P.mk (1#64 <<< (62#64 % 64#64).toNat) (1#64 <<< (62#64 % 64#64).toNat))).hi))]) (st_ups _ _) rfl rfl (by rfl) (fun x hx => by kernel_rfl) (by intro x hx; exact span_Lsh_any (fromP 1#64 3#64) 62#64 _) ?_
  simp only [List.set_cons_succ, List.set_cons_zero]
  refine lin_call (i := 36) (f := 79) (args := #[.int .u64 (tn (1#64)), .int .u64 (tn (3#64))]) (v := .agg #[.int .u64 (tn ((fromP 1#64 3#64).lo)), .int .u64 (tn ((fromP 1#64 3#64).hi))]) (st_ups _ _) rfl rfl (by rfl) (fun x hx => by kernel_rfl) (by intro x hx; exact fromP_any 1#64 3#64 _) ?_
  simp only [List.set_cons_succ, List.set_cons_zero]
  refine lin_call (i := 37) (f := 41) (args := #[.agg #[.int .u64 (tn ((fromP 1#64 3#64).lo)), .int .u64 (tn ((fromP 1#64 3#64).hi))], .int .i64 (ti (63#64))]) (v := .agg #[.int .u64 (tn ((span_Mul (fromP 1#64 3#64) (P.mk (1#64 <<< (63#64 % 64#64).toNat) (1#64 <<< (63#64 % 64#64).toNat))).lo)), .int .u64 (tn ((span_Mul (fromP 1#64 3#64) (P.mk (1#64 <<< (63#64 % 64#64).toNat) (1#64 <<< (63#64 % 64#64).toNat))).hi))]) (st_ups _ _) rfl rfl (by rfl) (fun x hx => by kernel_rfl) (by intro x hx; exact span_Lsh_any (fromP 1#64 3#64) 63#64 _) ?_
  simp only [List.set_cons_succ, List.set_cons_zero]
  refine lin_call (i := 38) (f := 79) (args := #[.int .u64 (tn (1#64)), .int .u64 (tn (3#64))]) (v := .agg #[.int .u64 (tn ((fromP 1#64 3#64).lo)), .int .u64 (tn ((fromP 1#64 3#64).hi))]) (st_ups _ _) rfl rfl (by rfl) (fun x hx => by kernel_rfl) (by intro x hx; exact fromP_any 1#64 3#64 _) ?_
  simp only [List.set_cons_succ, List.set_cons_zero]
  refine lin_call (i := 39) (f := 41) (args := #[.agg #[.int .u64 (tn ((fromP 1#64 3#64).lo)), .int .u64 (tn ((fromP 1#64 3#64).hi))], .int .i64 (ti (64#64))]) (v := .agg #[.int .u64 (tn ((span_Mul (fromP 1#64 3#64) (P.mk (1#64 <<< (64#64 % 64#64).toNat) (1#64 <<< (64#64 % 64#64).toNat))).lo)), .int .u64 (tn ((span_Mul (fromP 1#64 3#64) (P.mk (1#64 <<< (64#64 % 64#64).toNat) (1#64 <<< (64#64 % 64#64).toNat))).hi))]) (st_ups _ _) rfl rfl (by rfl) (fun x hx => by kernel_rfl) (by intro x hx; exact span_Lsh_any (fromP 1#64 3#64) 64#64 _) ?_
  simp only [List.set_cons_succ, List.set_cons_zero]
  refine lin_call (i := 40) (f := 79) (args := #[.int .u64 (tn (8#64)), .int .u64 (tn (17#64))]) (v := .agg #[.int .u64 (tn ((fromP 8#64 17#64).lo)), .int .u64 (tn ((fromP 8#64 17#64).hi))]) (st_ups _ _) rfl rfl (by rfl) (fun x hx => by kernel_rfl) (by intro x hx; exact fromP_any 8#64 17#64 _) ?_
  simp only [List.set_cons_succ, List.set_cons_zero]
  refine lin_call (i := 41) (f := 43) (args := #[.agg #[.int .u64 (tn ((fromP 8#64 17#64).lo)), .int .u64 (tn ((fromP 8#64 17#64).hi))], .int .i64 (ti (3#64))]) (v := .agg #[.int .u64 (tn ((fromP 8#64 17#64).lo >>> (3#64 % 64#64).toNat)), .int .u64 (tn ((fromP 8#64 17#64).hi >>> (3#64 % 64#64).toNat))]) (st_ups _ _) rfl rfl (by rfl) (fun x hx => by kernel_rfl) (by intro x hx; exact span_Rsh_any (fromP 8#64 17#64) 3#64 _) ?_
  simp only [List.set_cons_succ, List.set_cons_zero]
  refine lin_call (i := 42) (f := 79) (args := #[.int .u64 (tn (7#64)), .int .u64 (tn (9#64))]) (v := .agg #[.int .u64 (tn ((fromP 7#64 9#64).lo)), .int .u64 (tn ((fromP 7#64 9#64).hi))]) (st_ups _ _) rfl rfl (by rfl) (fun x hx => by kernel_rfl) (by intro x hx; exact fromP_any 7#64 9#64 _) ?_
  simp only [List.set_cons_succ, List.set_cons_zero]
  refine lin_call (i := 43) (f := 15) (args := #[.int .u64 (tn (0#64))]) (v := .agg #[.int .u64 (tn (0#64)), .int .u64 (tn (0#64))]) (st_ups _ _) rfl rfl (by rfl) (fun x hx => by kernel_rfl) (by intro x hx; exact span_Of_any 0#64 _) ?_
  simp only [List.set_cons_succ, List.set_cons_zero]
  refine lin_call (i := 44) (f := 31) (args := #[.agg #[.int .u64 (tn ((fromP 7#64 9#64).lo)), .int .u64 (tn ((fromP 7#64 9#64).hi))], .agg #[.int .u64 (tn (0#64)), .int .u64 (tn (0#64))]]) (v := .agg #[.int .u64 (tn ((span_Div (fromP 7#64 9#64) (P.mk 0#64 0#64)).lo)), .int .u64 (tn ((span_Div (fromP 7#64 9#64) (P.mk 0#64 0#64)).hi))]) (st_ups _ _) rfl rfl (by rfl) (fun x hx => by kernel_rfl) (by intro x hx; exact span_Div_any (fromP 7#64 9#64) (P.mk 0#64 0#64) _) ?_
  simp only [List.set_cons_succ, List.set_cons_zero]
  refine lin_call (i := 45) (f := 79) (args := #[.int .u64 (tn (7#64)), .int .u64 (tn (9#64))]) (v := .agg #[.int .u64 (tn ((fromP 7#64 9#64).lo)), .int .u64 (tn ((fromP 7#64 9#64).hi))]) (st_ups _ _) rfl rfl (by rfl) (fun x hx => by kernel_rfl) (by intro x hx; exact fromP_any 7#64 9#64 _) ?_
  simp only [List.set_cons_succ, List.set_cons_zero]
  refine lin_call (i := 46) (f := 15) (args := #[.int .u64 (tn (0#64))]) (v := .agg #[.int .u64 (tn (0#64)), .int .u64 (tn (0#64))]) (st_ups _ _) rfl rfl (by rfl) (fun x hx => by kernel_rfl) (by intro x hx; exact span_Of_any 0#64 _) ?_
  simp only [List.set_cons_succ, List.set_cons_zero]
  refine lin_call (i := 47) (f := 33) (args := #[.agg #[.int .u64 (tn ((fromP 7#64 9#64).lo)), .int .u64 (tn ((fromP 7#64 9#64).hi))], .agg #[.int .u64 (tn (0#64)), .int .u64 (tn (0#64))]]) (v := .agg #[.int .u64 (tn ((span_Mod (fromP 7#64 9#64) (P.mk 0#64 0#64)).lo)), .int .u64 (tn ((span_Mod (fromP 7#64 9#64) (P.mk 0#64 0#64)).hi))]) (st_ups _ _) rfl rfl (by rfl) (fun x hx => by kernel_rfl) (by intro x hx; exact span_Mod_any (fromP 7#64 9#64) (P.mk 0#64 0#64) _) ?_
  simp only [List.set_cons_succ, List.set_cons_zero]
  refine lin_call (i := 48) (f := 79) (args := #[.int .u64 (tn (7#64)), .int .u64 (tn (9#64))]) (v := .agg #[.int .u64 (tn ((fromP 7#64 9#64).lo)), .int .u64 (tn ((fromP 7#64 9#64).hi))]) (st_ups _ _) rfl rfl (by rfl) (fun x hx => by kernel_rfl) (by intro x hx; exact fromP_any 7#64 9#64 _) ?_
  simp only [List.set_cons_succ, List.set_cons_zero]
  refine lin_call (i := 49) (f := 79) (args := #[.int .u64 (tn (10#64)), .int .u64 (tn (12#64))]) (v := .agg #[.int .u64 (tn ((fromP 10#64 12#64).lo)), .int .u64 (tn ((fromP 10#64 12#64).hi))]) (st_ups _ _) rfl rfl (by rfl) (fun x hx => by kernel_rfl) (by intro x hx; exact fromP_any 10#64 12#64 _) ?_
  simp only [List.set_cons_succ, List.set_cons_zero]
  refine lin_call (i := 50) (f := 33) (args := #[.agg #[.int .u64 (tn ((fromP 7#64 9#64).lo)), .int .u64 (tn ((fromP 7#64 9#64).hi))], .agg #[.int .u64 (tn ((fromP 10#64 12#64).lo)), .int .u64 (tn ((fromP 10#64 12#64).hi))]]) (v := .agg #[.int .u64 (tn ((span_Mod (fromP 7#64 9#64) (fromP 10#64 12#64)).lo)), .int .u64 (tn ((span_Mod (fromP 7#64 9#64) (fromP 10#64 12#64)).hi))]) (st_ups _ _) rfl rfl (by rfl) (fun x hx => by kernel_rfl) (by intro x hx; exact span_Mod_any (fromP 7#64 9#64) (fromP 10#64 12#64) _) ?_
  simp only [List.set_cons_succ, List.set_cons_zero]
  refine lin_call (i := 51) (f := 79) (args := #[.int .u64 (tn (7#64)), .int .u64 (tn (9#64))]) (v := .agg #[.int .u64 (tn ((fromP 7#64 9#64).lo)), .int .u64 (tn ((fromP 7#64 9#64).hi))]) (st_ups _ _) rfl rfl (by rfl) (fun x hx => by kernel_rfl) (by intro x hx; exact fromP_any 7#64 9#64 _) ?_
  simp only [List.set_cons_succ, List.set_cons_zero]
  refine lin_call (i := 52) (f := 79) (args := #[.int .u64 (tn (0#64)), .int .u64 (tn (1#64))]) (v := .agg #[.int .u64 (tn ((fromP 0#64 1#64).lo)), .int .u64 (tn ((fromP 0#64 1#64).hi))]) (st_ups _ _) rfl rfl (by rfl) (fun x hx => by kernel_rfl) (by intro x hx; exact fromP_any 0#64 1#64 _) ?_
  simp only [List.set_cons_succ, List.set_cons_zero]
  refine lin_call (i := 53) (f := 33) (args := #[.agg #[.int .u64 (tn ((fromP 7#64 9#64).lo)), .int .u64 (tn ((fromP 7#64 9#64).hi))], .agg #[.int .u64 (tn ((fromP 0#64 1#64).lo)), .int .u64 (tn ((fromP 0#64 1#64).hi))]]) (v := .agg #[.int .u64 (tn ((span_Mod (fromP 7#64 9#64) (fromP 0#64 1#64)).lo)), .int .u64 (tn ((span_Mod (fromP 7#64 9#64) (fromP 0#64 1#64)).hi))]) (st_ups _ _) rfl rfl (by rfl) (fun x hx => by kernel_rfl) (by intro x hx; exact span_Mod_any (fromP 7#64 9#64) (fromP 0#64 1#64) _) ?_
  simp only [List.set_cons_succ, List.set_cons_zero]
  refine lin_val (i := 54) (v := .agg #[.int .i64 (-2), .int .i64 (-1)]) rfl rfl (by rfl) (by intro x hx; go_simp; (first | done | exact rfl)) ?_
  simp only [List.set_cons_succ, List.set_cons_zero]
  refine lin_call (i := 55) (f := 72) (args := #[.agg #[.int .i64 (ti (18446744073709551614#64)), .int .i64 (ti (18446744073709551615#64))]]) (v := .agg #[.int .u64 (tn ((span_ToSpan (P.mk 18446744073709551614#64 18446744073709551615#64)).lo)), .int .u64 (tn ((span_ToSpan (P.mk 18446744073709551614#64 18446744073709551615#64)).hi))]) (st_ups _ _) rfl rfl (by rfl) (fun x hx => by kernel_rfl) (by intro x hx; exact span_ToSpan_any (P.mk 18446744073709551614#64 18446744073709551615#64) _) ?_
  simp only [List.set_cons_succ, List.set_cons_zero]
  refine lin_val (i := 56) (v := .agg #[.int .i64 (-1), .int .i64 0]) rfl rfl (by rfl) (by intro x hx; go_simp; (first | done | exact rfl)) ?_
  simp only [List.set_cons_succ, List.set_cons_zero]
  refine lin_call (i := 57) (f := 72) (args := #[.agg #[.int .i64 (ti (18446744073709551615#64)), .int .i64 (ti (0#64))]]) (v := .agg #[.int .u64 (tn ((span_ToSpan (P.mk 18446744073709551615#64 0#64)).lo)), .int .u64 (tn ((span_ToSpan (P.mk 18446744073709551615#64 0#64)).hi))]) (st_ups _ _) rfl rfl (by rfl) (fun x hx => by kernel_rfl) (by intro x hx; exact span_ToSpan_any (P.mk 18446744073709551615#64 0#64) _) ?_
  simp only [List.set_cons_succ, List.set_cons_zero]
  refine lin_val (i := 58) (v := .agg #[.int .u64 4, .int .u64 9]) rfl rfl (by rfl) (by intro x hx; go_simp; (first | done | exact rfl)) ?_
  simp only [List.set_cons_succ, List.set_cons_zero]
  refine lin_call (i := 59) (f := 75) (args := #[.agg #[.int .u64 (tn (4#64)), .int .u64 (tn (9#64))]]) (v := .agg #[.int .u64 (tn ((P.mk 4#64 9#64).lo)), .int .u64 (tn ((P.mk 4#64 9#64).lo ||| (P.mk 4#64 9#64).hi))]) (st_ups _ _) rfl rfl (by rfl) (fun x hx => by kernel_rfl) (by intro x hx; exact span_Bounds_any (P.mk 4#64 9#64) _) ?_
  simp only [List.set_cons_succ, List.set_cons_zero]
  refine lin_call (i := 60) (f := 17) (args := #[]) (v := .agg #[.int .u64 (tn (0#64)), .int .u64 (tn (18446744073709551615#64))]) (st_ups _ _) rfl rfl (by rfl) (fun x hx => by kernel_rfl) (by intro x hx; exact span_All_any _) ?_
  simp only [List.set_cons_succ, List.set_cons_zero]
  refine lin_call (i := 61) (f := 15) (args := #[.int .u64 (tn (0#64))]) (v := .agg #[.int .u64 (tn (0#64)), .int .u64 (tn (0#64))]) (st_ups _ _) rfl rfl (by rfl) (fun x hx => by kernel_rfl) (by intro x hx; exact span_Of_any 0#64 _) ?_
  simp only [List.set_cons_succ, List.set_cons_zero]
  refine lin_call (i := 62) (f := 37) (args := #[.agg #[.int .u64 (tn (0#64)), .int .u64 (tn (18446744073709551615#64))], .agg #[.int .u64 (tn (0#64)), .int .u64 (tn (0#64))]]) (v := .agg #[.int .u64 (tn (maxU (P.mk 0#64 18446744073709551615#64).lo (P.mk 0#64 0#64).lo)), .int .u64 (tn (onesV (maxU (P.mk 0#64 18446744073709551615#64).hi (P.mk 0#64 0#64).hi)))]) (st_ups _ _) rfl rfl (by rfl) (fun x hx => by kernel_rfl) (by intro x hx; exact span_Or_any (P.mk 0#64 18446744073709551615#64) (P.mk 0#64 0#64) _) ?_
  simp only [List.set_cons_succ, List.set_cons_zero]
  refine lin_call (i := 63) (f := 15) (args := #[.int .u64 (tn (0#64))]) (v := .agg #[.int .u64 (tn (0#64)), .int .u64 (tn (0#64))]) (st_ups _ _) rfl rfl (by rfl) (fun x hx => by kernel_rfl) (by intro x hx; exact span_Of_any 0#64 _) ?_
  simp only [List.set_cons_succ, List.set_cons_zero]
  refine lin_call (i := 64) (f := 79) (args := #[.int .u64 (tn (1#64)), .int .u64 (tn (2#64))]) (v := .agg #[.int .u64 (tn ((fromP 1#64 2#64).lo)), .int .u64 (tn ((fromP 1#64 2#64).hi))]) (st_ups _ _) rfl rfl (by rfl) (fun x hx => by kernel_rfl) (by intro x hx; exact fromP_any 1#64 2#64 _) ?_
  simp only [List.set_cons_succ, List.set_cons_zero]
  refine lin_call (i := 65) (f := 27) (args := #[.agg #[.int .u64 (tn (0#64)), .int .u64 (tn (0#64))], .agg #[.int .u64 (tn ((fromP 1#64 2#64).lo)), .int .u64 (tn ((fromP 1#64 2#64).hi))]]) (v := .agg #[.int .u64 (tn ((span_Sub (P.mk 0#64 0#64) (fromP 1#64 2#64)).lo)), .int .u64 (tn ((span_Sub (P.mk 0#64 0#64) (fromP 1#64 2#64)).hi))]) (st_ups _ _) rfl rfl (by rfl) (fun x hx => by kernel_rfl) (by intro x hx; exact span_Sub_any (P.mk 0#64 0#64) (fromP 1#64 2#64) _) ?_
  simp only [List.set_cons_succ, List.set_cons_zero]
  refine lin_new (i := 66) rfl rfl (by rfl) law_SpanKnown_c0 24 (fun k => .slice (some ⟨k, 0, none⟩) 25 25) (law_SpanKnown_c0.map some) (lessC_refl _) (by intro x hx; go_simp; (first | done | exact rfl)) (fun k1 => ?_)
  simp only [List.set_cons_succ, List.set_cons_zero]
  refine lin_val (i := 67) (v := .slice (some ⟨k1, 0, none⟩) 25 25) rfl rfl (by rfl) (by intro x hx; go_simp; (first | done | exact rfl)) ?_
  simp only [List.set_cons_succ, List.set_cons_zero]
  refine lin_done ?_
  intro W1 hx
  replace HS := hid hx
  clear hx
  -- region 2
  go_upto_region 2 with fail
  refine lin_begin (St w [⟨k1, (law_SpanKnown_c0.map some), 24⟩]) rfl HS.out ?_
  refine lin_call (i := 0) (f := 79) (args := #[.int .u64 (tn (0#64)), .int .u64 (tn (1#64))]) (v := .agg #[.int .u64 (tn ((fromP 0#64 1#64).lo)), .int .u64 (tn ((fromP 0#64 1#64).hi))]) (st_ups _ _) rfl rfl (by rfl) (fun x hx => by kernel_rfl) (by intro x hx; exact fromP_any 0#64 1#64 _) ?_
  simp only [List.set_cons_succ, List.set_cons_zero]
  refine lin_call (i := 1) (f := 79) (args := #[.int .u64 (tn (0#64)), .int .u64 (tn (4#64))]) (v := .agg #[.int .u64 (tn ((fromP 0#64 4#64).lo)), .int .u64 (tn ((fromP 0#64 4#64).hi))]) (st_ups _ _) rfl rfl (by rfl) (fun x hx => by kernel_rfl) (by intro x hx; exact fromP_any 0#64 4#64 _) ?_
  simp only [List.set_cons_succ, List.set_cons_zero]
  refine lin_call (i := 2) (f := 17) (args := #[]) (v := .agg #[.int .u64 (tn (0#64)), .int .u64 (tn (18446744073709551615#64))]) (st_ups _ _) rfl rfl (by rfl) (fun x hx => by kernel_rfl) (by intro x hx; exact span_All_any _) ?_
  simp only [List.set_cons_succ, List.set_cons_zero]
  refine lin_call (i := 3) (f := 79) (args := #[.int .u64 (tn (4#64)), .int .u64 (tn (7#64))]) (v := .agg #[.int .u64 (tn ((fromP 4#64 7#64).lo)), .int .u64 (tn ((fromP 4#64 7#64).hi))]) (st_ups _ _) rfl rfl (by rfl) (fun x hx => by kernel_rfl) (by intro x hx; exact fromP_any 4#64 7#64 _) ?_
  simp only [List.set_cons_succ, List.set_cons_zero]
  refine lin_call (i := 4) (f := 79) (args := #[.int .u64 (tn (0#64)), .int .u64 (tn (7#64))]) (v := .agg #[.int .u64 (tn ((fromP 0#64 7#64).lo)), .int .u64 (tn ((fromP 0#64 7#64).hi))]) (st_ups _ _) rfl rfl (by rfl) (fun x hx => by kernel_rfl) (by intro x hx; exact fromP_any 0#64 7#64 _) ?_
  simp only [List.set_cons_succ, List.set_cons_zero]
  refine lin_call (i := 5) (f := 79) (args := #[.int .u64 (tn (0#64)), .int .u64 (tn (2#64))]) (v := .agg #[.int .u64 (tn ((fromP 0#64 2#64).lo)), .int .u64 (tn ((fromP 0#64 2#64).hi))]) (st_ups _ _) rfl rfl (by rfl) (fun x hx => by kernel_rfl) (by intro x hx; exact fromP_any 0#64 2#64 _) ?_
  simp only [List.set_cons_succ, List.set_cons_zero]
  refine lin_call (i := 6) (f := 79) (args := #[.int .u64 (tn (0#64)), .int .u64 (tn (9#64))]) (v := .agg #[.int .u64 (tn ((fromP 0#64 9#64).lo)), .int .u64 (tn ((fromP 0#64 9#64).hi))]) (st_ups _ _) rfl rfl (by rfl) (fun x hx => by kernel_rfl) (by intro x hx; exact fromP_any 0#64 9#64 _) ?_
  simp only [List.set_cons_succ, List.set_cons_zero]
  refine lin_call (i := 7) (f := 79) (args := #[.int .u64 (tn (0#64)), .int .u64 (tn (3#64))]) (v := .agg #[.int .u64 (tn ((fromP 0#64 3#64).lo)), .int .u64 (tn ((fromP 0#64 3#64).hi))]) (st_ups _ _) rfl rfl (by rfl) (fun x hx => by kernel_rfl) (by intro x hx; exact fromP_any 0#64 3#64 _) ?_
  simp only [List.set_cons_succ, List.set_cons_zero]
  refine lin_call (i := 8) (f := 79) (args := #[.int .u64 (tn (0#64)), .int .u64 (tn (4294967295#64))]) (v := .agg #[.int .u64 (tn ((fromP 0#64 4294967295#64).lo)), .int .u64 (tn ((fromP 0#64 4294967295#64).hi))]) (st_ups _ _) rfl rfl (by rfl) (fun x hx => by kernel_rfl) (by intro x hx; exact fromP_any 0#64 4294967295#64 _) ?_
  simp only [List.set_cons_succ, List.set_cons_zero]
  refine lin_call (i := 9) (f := 79) (args := #[.int .u64 (tn (3#64)), .int .u64 (tn (5#64))]) (v := .agg #[.int .u64 (tn ((fromP 3#64 5#64).lo)), .int .u64 (tn ((fromP 3#64 5#64).hi))]) (st_ups _ _) rfl rfl (by rfl) (fun x hx => by kernel_rfl) (by intro x hx; exact fromP_any 3#64 5#64 _) ?_
  simp only [List.set_cons_succ, List.set_cons_zero]
  refine lin_call (i := 10) (f := 79) (args := #[.int .u64 (tn (8#64)), .int .u64 (tn (15#64))]) (v := .agg #[.int .u64 (tn ((fromP 8#64 15#64).lo)), .int .u64 (tn ((fromP 8#64 15#64).hi))]) (st_ups _ _) rfl rfl (by rfl) (fun x hx => by kernel_rfl) (by intro x hx; exact fromP_any 8#64 15#64 _) ?_
  simp only [List.set_cons_succ, List.set_cons_zero]
  refine lin_call (i := 11) (f := 17) (args := #[]) (v := .agg #[.int .u64 (tn (0#64)), .int .u64 (tn (18446744073709551615#64))]) (st_ups _ _) rfl rfl (by rfl) (fun x hx => by kernel_rfl) (by intro x hx; exact span_All_any _) ?_
  simp only [List.set_cons_succ, List.set_cons_zero]
  refine lin_call (i := 12) (f := 79) (args := #[.int .u64 (tn (4611686018427387904#64)), .int .u64 (tn (13835058055282163712#64))]) (v := .agg #[.int .u64 (tn ((fromP 4611686018427387904#64 13835058055282163712#64).lo)), .int .u64 (tn ((fromP 4611686018427387904#64 13835058055282163712#64).hi))]) (st_ups _ _) rfl rfl (by rfl) (fun x hx => by kernel_rfl) (by intro x hx; exact fromP_any 4611686018427387904#64 13835058055282163712#64 _) ?_
  simp only [List.set_cons_succ, List.set_cons_zero]
  refine lin_call (i := 13) (f := 17) (args := #[]) (v := .agg #[.int .u64 (tn (0#64)), .int .u64 (tn (18446744073709551615#64))]) (st_ups _ _) rfl rfl (by rfl) (fun x hx => by kernel_rfl) (by intro x hx; exact span_All_any _) ?_
  simp only [List.set_cons_succ, List.set_cons_zero]
  refine lin_call (i := 14) (f := 79) (args := #[.int .u64 (tn (1#64)), .int .u64 (tn (3#64))]) (v := .agg #[.int .u64 (tn ((fromP 1#64 3#64).lo)), .int .u64 (tn ((fromP 1#64 3#64).hi))]) (st_ups _ _) rfl rfl (by rfl) (fun x hx => by kernel_rfl) (by intro x hx; exact fromP_any 1#64 3#64 _) ?_
  simp only [List.set_cons_succ, List.set_cons_zero]
  refine lin_call (i := 15) (f := 79) (args := #[.int .u64 (tn (1#64)), .int .u64 (tn (2#64))]) (v := .agg #[.int .u64 (tn ((fromP 1#64 2#64).lo)), .int .u64 (tn ((fromP 1#64 2#64).hi))]) (st_ups _ _) rfl rfl (by rfl) (fun x hx => by kernel_rfl) (by intro x hx; exact fromP_any 1#64 2#64 _) ?_
  simp only [List.set_cons_succ, List.set_cons_zero]
  refine lin_call (i := 16) (f := 15) (args := #[.int .u64 (tn (0#64))]) (v := .agg #[.int .u64 (tn (0#64)), .int .u64 (tn (0#64))]) (st_ups _ _) rfl rfl (by rfl) (fun x hx => by kernel_rfl) (by intro x hx; exact span_Of_any 0#64 _) ?_
  simp only [List.set_cons_succ, List.set_cons_zero]
  refine lin_call (i := 17) (f := 79) (args := #[.int .u64 (tn (7#64)), .int .u64 (tn (9#64))]) (v := .agg #[.int .u64 (tn ((fromP 7#64 9#64).lo)), .int .u64 (tn ((fromP 7#64 9#64).hi))]) (st_ups _ _) rfl rfl (by rfl) (fun x hx => by kernel_rfl) (by intro x hx; exact fromP_any 7#64 9#64 _) ?_
  simp only [List.set_cons_succ, List.set_cons_zero]
  refine lin_call (i := 18) (f := 79) (args := #[.int .u64 (tn (7#64)), .int .u64 (tn (9#64))]) (v := .agg #[.int .u64 (tn ((fromP 7#64 9#64).lo)), .int .u64 (tn ((fromP 7#64 9#64).hi))]) (st_ups _ _) rfl rfl (by rfl) (fun x hx => by kernel_rfl) (by intro x hx; exact fromP_any 7#64 9#64 _) ?_
  simp only [List.set_cons_succ, List.set_cons_zero]
  refine lin_call (i := 19) (f := 79) (args := #[.int .u64 (tn (0#64)), .int .u64 (tn (9#64))]) (v := .agg #[.int .u64 (tn ((fromP 0#64 9#64).lo)), .int .u64 (tn ((fromP 0#64 9#64).hi))]) (st_ups _ _) rfl rfl (by rfl) (fun x hx => by kernel_rfl) (by intro x hx; exact fromP_any 0#64 9#64 _) ?_
  simp only [List.set_cons_succ, List.set_cons_zero]
  refine lin_call (i := 20) (f := 79) (args := #[.int .u64 (tn (18446744073709551614#64)), .int .u64 (tn (18446744073709551615#64))]) (v := .agg #[.int .u64 (tn ((fromP 18446744073709551614#64 18446744073709551615#64).lo)), .int .u64 (tn ((fromP 18446744073709551614#64 18446744073709551615#64).hi))]) (st_ups _ _) rfl rfl (by rfl) (fun x hx => by kernel_rfl) (by intro x hx; exact fromP_any 18446744073709551614#64 18446744073709551615#64 _) ?_
  simp only [List.set_cons_succ, List.set_cons_zero]
  refine lin_call (i := 21) (f := 17) (args := #[]) (v := .agg #[.int .u64 (tn (0#64)), .int .u64 (tn (18446744073709551615#64))]) (st_ups _ _) rfl rfl (by rfl) (fun x hx => by kernel_rfl) (by intro x hx; exact span_All_any _) ?_
  simp only [List.set_cons_succ, List.set_cons_zero]
  refine lin_call (i := 22) (f := 79) (args := #[.int .u64 (tn (4#64)), .int .u64 (tn (13#64))]) (v := .agg #[.int .u64 (tn ((fromP 4#64 13#64).lo)), .int .u64 (tn ((fromP 4#64 13#64).hi))]) (st_ups _ _) rfl rfl (by rfl) (fun x hx => by kernel_rfl) (by intro x hx; exact fromP_any 4#64 13#64 _) ?_
  simp only [List.set_cons_succ, List.set_cons_zero]
  refine lin_call (i := 23) (f := 17) (args := #[]) (v := .agg #[.int .u64 (tn (0#64)), .int .u64 (tn (18446744073709551615#64))]) (st_ups _ _) rfl rfl (by rfl) (fun x hx => by kernel_rfl) (by intro x hx; exact span_All_any _) ?_
  simp only [List.set_cons_succ, List.set_cons_zero]
  refine lin_call (i := 24) (f := 79) (args := #[.int .u64 (tn (18446744073709551614#64)), .int .u64 (tn (18446744073709551615#64))]) (v := .agg #[.int .u64 (tn ((fromP 18446744073709551614#64 18446744073709551615#64).lo)), .int .u64 (tn ((fromP 18446744073709551614#64 18446744073709551615#64).hi))]) (st_ups _ _) rfl rfl (by rfl) (fun x hx => by kernel_rfl) (by intro x hx; exact fromP_any 18446744073709551614#64 18446744073709551615#64 _) ?_
  simp only [List.set_cons_succ, List.set_cons_zero]
  refine lin_new (i := 25) rfl rfl (by rfl) law_SpanKnown_c1 24 (fun k => .slice (some ⟨k, 0, none⟩) 25 25) (law_SpanKnown_c1.map some) (lessC_refl _) (by intro x hx; go_simp; (first | done | exact rfl)) (fun k2 => ?_)
  simp only [List.set_cons_succ, List.set_cons_zero]
  refine lin_val (i := 26) (v := .slice (some ⟨k2, 0, none⟩) 25 25) rfl rfl (by rfl) (by intro x hx; go_simp; (first | done | exact rfl)) ?_
  simp only [List.set_cons_succ, List.set_cons_zero]
  refine lin_done ?_
  intro W2 hx
  replace HS := hid hx
  clear hx
  -- region 3
  go_upto_region 3 with fail
  refine lin_begin (St w [⟨k1, (law_SpanKnown_c0.map some), 24⟩, ⟨k2, (law_SpanKnown_c1.map some), 24⟩]) rfl HS.out ?_
  refine lin_val (i := 0) (v := .int .i64 0) rfl rfl (by rfl) (by intro x hx; go_simp; (first | done | exact rfl)) ?_
  simp only [List.set_cons_succ, List.set_cons_zero]
  refine lin_done ?_
  intro W3 hx
  replace HS := hid hx
  clear hx
  go_wp2
  refine wp_loop_rounds 70 ?_
  rw [rounds_succ]
  -- region 4
  go_upto_region 4 with fail
  refine lin_begin (St w [⟨k1, (law_SpanKnown_c0.map some), 24⟩, ⟨k2, (law_SpanKnown_c1.map some), 24⟩]) rfl HS.out ?_
  refine lin_val (i := 0) (v := .int .i64 0) rfl rfl (by rfl) (by intro x hx; go_simp; (first | done | exact rfl)) ?_
  simp only [List.set_cons_succ, List.set_cons_zero]
  refine lin_val (i := 1) (v := .slice (some ⟨k1, 0, none⟩) 25 25) rfl rfl (by rfl) (by intro x hx; go_simp; (first | done | exact rfl)) ?_
  simp only [List.set_cons_succ, List.set_cons_zero]
  refine lin_val (i := 2) (v := .int .i64 25) rfl rfl (by rfl) (by intro x hx; go_simp; (first | done | exact rfl)) ?_
  simp only [List.set_cons_succ, List.set_cons_zero]
  refine lin_val (i := 3) (v := .bool true) rfl rfl (by rfl) (by intro x hx; go_simp; (first | done | exact rfl)) ?_
  simp only [List.set_cons_succ, List.set_cons_zero]
  refine lin_done ?_
  intro W4 hx
  replace HS := hid hx
  clear hx
  -- region 6
  go_upto_region 6 with fail
  refine up_begin (St w [⟨k1, (law_SpanKnown_c0.map some), 24⟩, ⟨k2, (law_SpanKnown_c1.map some), 24⟩]) 9 rfl (by kernel_rfl) (HS.out.drew) ?_
  refine take_val (i := 0) (v := .slice (some ⟨k1, 0, none⟩) 25 25) (st_ups _ _) rfl rfl (by kernel_rfl) (fun _ _ _ h => h) (by rfl) (by intro x hx; go_simp; (first | done | exact rfl)) ?_
  simp only [List.set_cons_succ, List.set_cons_zero]
  refine take_val (i := 1) (v := .int .i64 0) (st_ups _ _) rfl rfl (by kernel_rfl) (fun _ _ _ h => h) (by rfl) (by intro x hx; go_simp; (first | done | exact rfl)) ?_
  simp only [List.set_cons_succ, List.set_cons_zero]
  refine take_val (i := 2) (v := .pointer (some ⟨k1, 0, none⟩)) (st_ups _ _) rfl rfl (by kernel_rfl) (fun _ _ _ h => h) (by rfl) (by intro x hx; go_simp; (first | done | exact rfl)) ?_
  simp only [List.set_cons_succ, List.set_cons_zero]
  refine take_val (i := 3) (v := .agg #[.int .u64 (tn ((span_Add (fromP 18446744073709551614#64 18446744073709551615#64) (P.mk 2#64 2#64)).lo)), .int .u64 (tn ((span_Add (fromP 18446744073709551614#64 18446744073709551615#64) (P.mk 2#64 2#64)).hi))]) (st_ups _ _) rfl rfl (by kernel_rfl) (fun _ _ _ h => h) (by rfl) (by intro x hx; have f0 := hx.load 0 0 rfl rfl; have f1 := hx.load 0 1 rfl rfl; go_simp; (first | done | exact rfl)) ?_
  simp only [List.set_cons_succ, List.set_cons_zero]
  refine take_val (i := 4) (v := .slice (some ⟨k2, 0, none⟩) 25 25) (st_ups _ _) rfl rfl (by kernel_rfl) (fun _ _ _ h => h) (by rfl) (by intro x hx; go_simp; (first | done | exact rfl)) ?_
  simp only [List.set_cons_succ, List.set_cons_zero]
  refine take_val (i := 5) (v := .int .i64 0) (st_ups _ _) rfl rfl (by kernel_rfl) (fun _ _ _ h => h) (by rfl) (by intro x hx; go_simp; (first | done | exact rfl)) ?_
  simp only [List.set_cons_succ, List.set_cons_zero]
  refine take_val (i := 6) (v := .pointer (some ⟨k2, 0, none⟩)) (st_ups _ _) rfl rfl (by kernel_rfl) (fun _ _ _ h => h) (by rfl) (by intro x hx; go_simp; (first | done | exact rfl)) ?_
  simp only [List.set_cons_succ, List.set_cons_zero]
  refine take_val (i := 7) (v := .agg #[.int .u64 (tn ((fromP 0#64 1#64).lo)), .int .u64 (tn ((fromP 0#64 1#64).hi))]) (st_ups _ _) rfl rfl (by kernel_rfl) (fun _ _ _ h => h) (by rfl) (by intro x hx; have f0 := hx.load 1 0 rfl rfl; have f1 := hx.load 1 1 rfl rfl; go_simp; (first | done | exact rfl)) ?_
  simp only [List.set_cons_succ, List.set_cons_zero]
  refine take_val (i := 8) (v := .bool false) (st_ups _ _) rfl rfl (by kernel_rfl) (fun _ _ _ h => h) (by rfl) (by intro x hx; go_simp; (first | done | exact (eqPT (fun b => Result.ok (Next.value (Value.bool (!b))) x) ((span_Add (fromP 18446744073709551614#64 18446744073709551615#64) (P.mk 2#64 2#64)).lo) ((span_Add (fromP 18446744073709551614#64 18446744073709551615#64) (P.mk 2#64 2#64)).hi) ((fromP 0#64 1#64).lo) ((fromP 0#64 1#64).hi)).trans (congrArg (fun b => Result.ok (Next.value (Value.bool (!b))) x) ((show (eqP (span_Add (fromP 18446744073709551614#64 18446744073709551615#64) (P.mk 2#64 2#64)) (fromP 0#64 1#64)) = true by decide +kernel))))) ?_
  simp only [List.set_cons_succ, List.set_cons_zero]
  refine take_done (by kernel_rfl) ?_ _
  intro W5 hx
  replace HS := hid hx
  clear hx
  -- region 5
  go_upto_region 5 with fail
  refine lin_begin (St w [⟨k1, (law_SpanKnown_c0.map some), 24⟩, ⟨k2, (law_SpanKnown_c1.map some), 24⟩]) rfl HS.out ?_
  refine lin_val (i := 0) (v := .int .i64 0) rfl rfl (by rfl) (by intro x hx; go_simp; (first | done | exact rfl)) ?_
  simp only [List.set_cons_succ, List.set_cons_zero]
  refine lin_val (i := 1) (v := .int .i64 1) rfl rfl (by rfl) (by intro x hx; go_simp; (first | done | exact rfl)) ?_
  simp only [List.set_cons_succ, List.set_cons_zero]
  refine lin_val (i := 2) (v := .int .i64 1) rfl rfl (by rfl) (by intro x hx; go_simp; (first | done | exact rfl)) ?_
  simp only [List.set_cons_succ, List.set_cons_zero]
  refine lin_done ?_
  intro W6 hx
  replace HS := hid hx
  clear hx
  go_wp2
  rw [rounds_succ]
  -- region 4
  go_upto_region 4 with fail
  refine lin_begin (St w [⟨k1, (law_SpanKnown_c0.map some), 24⟩, ⟨k2, (law_SpanKnown_c1.map some), 24⟩]) rfl HS.out ?_
  refine lin_val (i := 0) (v := .int .i64 1) rfl rfl (by rfl) (by intro x hx; go_simp; (first | done | exact rfl)) ?_
  simp only [List.set_cons_succ, List.set_cons_zero]
  refine lin_val (i := 1) (v := .slice (some ⟨k1, 0, none⟩) 25 25) rfl rfl (by rfl) (by intro x hx; go_simp; (first | done | exact rfl)) ?_
  simp only [List.set_cons_succ, List.set_cons_zero]
  refine lin_val (i := 2) (v := .int .i64 25) rfl rfl (by rfl) (by intro x hx; go_simp; (first | done | exact rfl)) ?_
  simp only [List.set_cons_succ, List.set_cons_zero]
  refine lin_val (i := 3) (v := .bool true) rfl rfl (by rfl) (by intro x hx; go_simp; (first | done | exact rfl)) ?_
  simp only [List.set_cons_succ, List.set_cons_zero]
  refine lin_done ?_
  intro W7 hx
  replace HS := hid hx
  clear hx
  -- region 6
  go_upto_region 6 with fail
  refine up_begin (St w [⟨k1, (law_SpanKnown_c0.map some), 24⟩, ⟨k2, (law_SpanKnown_c1.map some), 24⟩]) 9 rfl (by kernel_rfl) (HS.out.drew) ?_
  refine take_val (i := 0) (v := .slice (some ⟨k1, 0, none⟩) 25 25) (st_ups _ _) rfl rfl (by kernel_rfl) (fun _ _ _ h => h) (by rfl) (by intro x hx; go_simp; (first | done | exact rfl)) ?_
  simp only [List.set_cons_succ, List.set_cons_zero]
  refine take_val (i := 1) (v := .int .i64 1) (st_ups _ _) rfl rfl (by kernel_rfl) (fun _ _ _ h => h) (by rfl) (by intro x hx; go_simp; (first | done | exact rfl)) ?_
  simp only [List.set_cons_succ, List.set_cons_zero]
  refine take_val (i := 2) (v := .pointer (some ⟨k1, 2, none⟩)) (st_ups _ _) rfl rfl (by kernel_rfl) (fun _ _ _ h => h) (by rfl) (by intro x hx; go_simp; (first | done | exact rfl)) ?_
  simp only [List.set_cons_succ, List.set_cons_zero]
  refine take_val (i := 3) (v := .agg #[.int .u64 (tn ((span_Sub (fromP 5#64 9#64) (P.mk 5#64 5#64)).lo)), .int .u64 (tn ((span_Sub (fromP 5#64 9#64) (P.mk 5#64 5#64)).hi))]) (st_ups _ _) rfl rfl (by kernel_rfl) (fun _ _ _ h => h) (by rfl) (by intro x hx; have f0 := hx.load 0 2 rfl rfl; have f1 := hx.load 0 3 rfl rfl; go_simp; (first | done | exact rfl)) ?_
  simp only [List.set_cons_succ, List.set_cons_zero]
  refine take_val (i := 4) (v := .slice (some ⟨k2, 0, none⟩) 25 25) (st_ups _ _) rfl rfl (by kernel_rfl) (fun _ _ _ h => h) (by rfl) (by intro x hx; go_simp; (first | done | exact rfl)) ?_
  simp only [List.set_cons_succ, List.set_cons_zero]
  refine take_val (i := 5) (v := .int .i64 1) (st_ups _ _) rfl rfl (by kernel_rfl) (fun _ _ _ h => h) (by rfl) (by intro x hx; go_simp; (first | done | exact rfl)) ?_
  simp only [List.set_cons_succ, List.set_cons_zero]
  refine take_val (i := 6) (v := .pointer (some ⟨k2, 2, none⟩)) (st_ups _ _) rfl rfl (by kernel_rfl) (fun _ _ _ h => h) (by rfl) (by intro x hx; go_simp; (first | done | exact rfl)) ?_
  simp only [List.set_cons_succ, List.set_cons_zero]
  refine take_val (i := 7) (v := .agg #[.int .u64 (tn ((fromP 0#64 4#64).lo)), .int .u64 (tn ((fromP 0#64 4#64).hi))]) (st_ups _ _) rfl rfl (by kernel_rfl) (fun _ _ _ h => h) (by rfl) (by intro x hx; have f0 := hx.load 1 2 rfl rfl; have f1 := hx.load 1 3 rfl rfl; go_simp; (first | done | exact rfl)) ?_
  simp only [List.set_cons_succ, List.set_cons_zero]
  refine take_val (i := 8) (v := .bool false) (st_ups _ _) rfl rfl (by kernel_rfl) (fun _ _ _ h => h) (by rfl) (by intro x hx; go_simp; (first | done | exact (eqPT (fun b => Result.ok (Next.value (Value.bool (!b))) x) ((span_Sub (fromP 5#64 9#64) (P.mk 5#64 5#64)).lo) ((span_Sub (fromP 5#64 9#64) (P.mk 5#64 5#64)).hi) ((fromP 0#64 4#64).lo) ((fromP 0#64 4#64).hi)).trans (congrArg (fun b => Result.ok (Next.value (Value.bool (!b))) x) ((show (eqP (span_Sub (fromP 5#64 9#64) (P.mk 5#64 5#64)) (fromP 0#64 4#64)) = true by decide +kernel))))) ?_
  simp only [List.set_cons_succ, List.set_cons_zero]
  refine take_done (by kernel_rfl) ?_ _
  intro W8 hx
  replace HS := hid hx
  clear hx
  -- region 5
  go_upto_region 5 with fail
  refine lin_begin (St w [⟨k1, (law_SpanKnown_c0.map some), 24⟩, ⟨k2, (law_SpanKnown_c1.map some), 24⟩]) rfl HS.out ?_
  refine lin_val (i := 0) (v := .int .i64 1) rfl rfl (by rfl) (by intro x hx; go_simp; (first | done | exact rfl)) ?_
  simp only [List.set_cons_succ, List.set_cons_zero]
  refine lin_val (i := 1) (v := .int .i64 2) rfl rfl (by rfl) (by intro x hx; go_simp; (first | done | exact rfl)) ?_
  simp only [List.set_cons_succ, List.set_cons_zero]
  refine lin_val (i := 2) (v := .int .i64 2) rfl rfl (by rfl) (by intro x hx; go_simp; (first | done | exact rfl)) ?_
  simp only [List.set_cons_succ, List.set_cons_zero]
  refine lin_done ?_
  intro W9 hx
  replace HS := hid hx
  clear hx
  go_wp2
  rw [rounds_succ]
  -- region 4
  go_upto_region 4 with fail
  refine lin_begin (St w [⟨k1, (law_SpanKnown_c0.map some), 24⟩, ⟨k2, (law_SpanKnown_c1.map some), 24⟩]) rfl HS.out ?_
  refine lin_val (i := 0) (v := .int .i64 2) rfl rfl (by rfl) (by intro x hx; go_simp; (first | done | exact rfl)) ?_
  simp only [List.set_cons_succ, List.set_cons_zero]
  refine lin_val (i := 1) (v := .slice (some ⟨k1, 0, none⟩) 25 25) rfl rfl (by rfl) (by intro x hx; go_simp; (first | done | exact rfl)) ?_
  simp only [List.set_cons_succ, List.set_cons_zero]
  refine lin_val (i := 2) (v := .int .i64 25) rfl rfl (by rfl) (by intro x hx; go_simp; (first | done | exact rfl)) ?_
  simp only [List.set_cons_succ, List.set_cons_zero]
  refine lin_val (i := 3) (v := .bool true) rfl rfl (by rfl) (by intro x hx; go_simp; (first | done | exact rfl)) ?_
  simp only [List.set_cons_succ, List.set_cons_zero]
  refine lin_done ?_
  intro W10 hx
  replace HS := hid hx
  clear hx
  -- region 6
  go_upto_region 6 with fail
  refine up_begin (St w [⟨k1, (law_SpanKnown_c0.map some), 24⟩, ⟨k2, (law_SpanKnown_c1.map some), 24⟩]) 9 rfl (by kernel_rfl) (HS.out.drew) ?_
  refine take_val (i := 0) (v := .slice (some ⟨k1, 0, none⟩) 25 25) (st_ups _ _) rfl rfl (by kernel_rfl) (fun _ _ _ h => h) (by rfl) (by intro x hx; go_simp; (first | done | exact rfl)) ?_
  simp only [List.set_cons_succ, List.set_cons_zero]
  refine take_val (i := 1) (v := .int .i64 2) (st_ups _ _) rfl rfl (by kernel_rfl) (fun _ _ _ h => h) (by rfl) (by intro x hx; go_simp; (first | done | exact rfl)) ?_
  simp only [List.set_cons_succ, List.set_cons_zero]
  refine take_val (i := 2) (v := .pointer (some ⟨k1, 4, none⟩)) (st_ups _ _) rfl rfl (by kernel_rfl) (fun _ _ _ h => h) (by rfl) (by intro x hx; go_simp; (first | done | exact rfl)) ?_
  simp only [List.set_cons_succ, List.set_cons_zero]
  refine take_val (i := 3) (v := .agg #[.int .u64 (tn ((span_Sub (fromP 5#64 9#64) (P.mk 6#64 6#64)).lo)), .int .u64 (tn ((span_Sub (fromP 5#64 9#64) (P.mk 6#64 6#64)).hi))]) (st_ups _ _) rfl rfl (by kernel_rfl) (fun _ _ _ h => h) (by rfl) (by intro x hx; have f0 := hx.load 0 4 rfl rfl; have f1 := hx.load 0 5 rfl rfl; go_simp; (first | done | exact rfl)) ?_
  simp only [List.set_cons_succ, List.set_cons_zero]
  refine take_val (i := 4) (v := .slice (some ⟨k2, 0, none⟩) 25 25) (st_ups _ _) rfl rfl (by kernel_rfl) (fun _ _ _ h => h) (by rfl) (by intro x hx; go_simp; (first | done | exact rfl)) ?_
  simp only [List.set_cons_succ, List.set_cons_zero]
  refine take_val (i := 5) (v := .int .i64 2) (st_ups _ _) rfl rfl (by kernel_rfl) (fun _ _ _ h => h) (by rfl) (by intro x hx; go_simp; (first | done | exact rfl)) ?_
  simp only [List.set_cons_succ, List.set_cons_zero]
  refine take_val (i := 6) (v := .pointer (some ⟨k2, 4, none⟩)) (st_ups _ _) rfl rfl (by kernel_rfl) (fun _ _ _ h => h) (by rfl) (by intro x hx; go_simp; (first | done | exact rfl)) ?_
  simp only [List.set_cons_succ, List.set_cons_zero]
  refine take_val (i := 7) (v := .agg #[.int .u64 (tn (0#64)), .int .u64 (tn (18446744073709551615#64))]) (st_ups _ _) rfl rfl (by kernel_rfl) (fun _ _ _ h => h) (by rfl) (by intro x hx; have f0 := hx.load 1 4 rfl rfl; have f1 := hx.load 1 5 rfl rfl; go_simp; (first | done | exact rfl)) ?_
  simp only [List.set_cons_succ, List.set_cons_zero]
  refine take_val (i := 8) (v := .bool false) (st_ups _ _) rfl rfl (by kernel_rfl) (fun _ _ _ h => h) (by rfl) (by intro x hx; go_simp; (first | done | exact (eqPT (fun b => Result.ok (Next.value (Value.bool (!b))) x) ((span_Sub (fromP 5#64 9#64) (P.mk 6#64 6#64)).lo) ((span_Sub (fromP 5#64 9#64) (P.mk 6#64 6#64)).hi) 0#64 18446744073709551615#64).trans (congrArg (fun b => Result.ok (Next.value (Value.bool (!b))) x) ((show (eqP (span_Sub (fromP 5#64 9#64) (P.mk 6#64 6#64)) (P.mk 0#64 18446744073709551615#64)) = true by decide +kernel))))) ?_
  simp only [List.set_cons_succ, List.set_cons_zero]
  refine take_done (by kernel_rfl) ?_ _
  intro W11 hx
  replace HS := hid hx
  clear hx
  -- region 5
  go_upto_region 5 with fail
  refine lin_begin (St w [⟨k1, (law_SpanKnown_c0.map some), 24⟩, ⟨k2, (law_SpanKnown_c1.map some), 24⟩]) rfl HS.out ?_
  refine lin_val (i := 0) (v := .int .i64 2) rfl rfl (by rfl) (by intro x hx; go_simp; (first | done | exact rfl)) ?_
  simp only [List.set_cons_succ, List.set_cons_zero]
  refine lin_val (i := 1) (v := .int .i64 3) rfl rfl (by rfl) (by intro x hx; go_simp; (first | done | exact rfl)) ?_
  simp only [List.set_cons_succ, List.set_cons_zero]
  refine lin_val (i := 2) (v := .int .i64 3) rfl rfl (by rfl) (by intro x hx; go_simp; (first | done | exact rfl)) ?_
  simp only [List.set_cons_succ, List.set_cons_zero]
  refine lin_done ?_
  intro W12 hx
  replace HS := hid hx
  clear hx
  go_wp2
  rw [rounds_succ]
  -- region 4
  go_upto_region 4 with fail
  refine lin_begin (St w [⟨k1, (law_SpanKnown_c0.map some), 24⟩, ⟨k2, (law_SpanKnown_c1.map some), 24⟩]) rfl HS.out ?_
  refine lin_val (i := 0) (v := .int .i64 3) rfl rfl (by rfl) (by intro x hx; go_simp; (first | done | exact rfl)) ?_
  simp only [List.set_cons_succ, List.set_cons_zero]
  refine lin_val (i := 1) (v := .slice (some ⟨k1, 0, none⟩) 25 25) rfl rfl (by rfl) (by intro x hx; go_simp; (first | done | exact rfl)) ?_
  simp only [List.set_cons_succ, List.set_cons_zero]
  refine lin_val (i := 2) (v := .int .i64 25) rfl rfl (by rfl) (by intro x hx; go_simp; (first | done | exact rfl)) ?_
  simp only [List.set_cons_succ, List.set_cons_zero]
  refine lin_val (i := 3) (v := .bool true) rfl rfl (by rfl) (by intro x hx; go_simp; (first | done | exact rfl)) ?_
  simp only [List.set_cons_succ, List.set_cons_zero]
  refine lin_done ?_
  intro W13 hx
  replace HS := hid hx
  clear hx
  -- region 6
  go_upto_region 6 with fail
  refine up_begin (St w [⟨k1, (law_SpanKnown_c0.map some), 24⟩, ⟨k2, (law_SpanKnown_c1.map some), 24⟩]) 9 rfl (by kernel_rfl) (HS.out.drew) ?_
  refine take_val (i := 0) (v := .slice (some ⟨k1, 0, none⟩) 25 25) (st_ups _ _) rfl rfl (by kernel_rfl) (fun _ _ _ h => h) (by rfl) (by intro x hx; go_simp; (first | done | exact rfl)) ?_
  simp only [List.set_cons_succ, List.set_cons_zero]
  refine take_val (i := 1) (v := .int .i64 3) (st_ups _ _) rfl rfl (by kernel_rfl) (fun _ _ _ h => h) (by rfl) (by intro x hx; go_simp; (first | done | exact rfl)) ?_
  simp only [List.set_cons_succ, List.set_cons_zero]
  refine take_val (i := 2) (v := .pointer (some ⟨k1, 6, none⟩)) (st_ups _ _) rfl rfl (by kernel_rfl) (fun _ _ _ h => h) (by rfl) (by intro x hx; go_simp; (first | done | exact rfl)) ?_
  simp only [List.set_cons_succ, List.set_cons_zero]
  refine take_val (i := 3) (v := .agg #[.int .u64 (tn (maxU (fromP 4#64 5#64).lo (P.mk 2#64 2#64).lo)), .int .u64 (tn (onesV (maxU (fromP 4#64 5#64).hi (P.mk 2#64 2#64).hi)))]) (st_ups _ _) rfl rfl (by kernel_rfl) (fun _ _ _ h => h) (by rfl) (by intro x hx; have f0 := hx.load 0 6 rfl rfl; have f1 := hx.load 0 7 rfl rfl; go_simp; (first | done | exact rfl)) ?_
  simp only [List.set_cons_succ, List.set_cons_zero]
  refine take_val (i := 4) (v := .slice (some ⟨k2, 0, none⟩) 25 25) (st_ups _ _) rfl rfl (by kernel_rfl) (fun _ _ _ h => h) (by rfl) (by intro x hx; go_simp; (first | done | exact rfl)) ?_
  simp only [List.set_cons_succ, List.set_cons_zero]
  refine take_val (i := 5) (v := .int .i64 3) (st_ups _ _) rfl rfl (by kernel_rfl) (fun _ _ _ h => h) (by rfl) (by intro x hx; go_simp; (first | done | exact rfl)) ?_
  simp only [List.set_cons_succ, List.set_cons_zero]
  refine take_val (i := 6) (v := .pointer (some ⟨k2, 6, none⟩)) (st_ups _ _) rfl rfl (by kernel_rfl) (fun _ _ _ h => h) (by rfl) (by intro x hx; go_simp; (first | done | exact rfl)) ?_
  simp only [List.set_cons_succ, List.set_cons_zero]
  refine take_val (i := 7) (v := .agg #[.int .u64 (tn ((fromP 4#64 7#64).lo)), .int .u64 (tn ((fromP 4#64 7#64).hi))]) (st_ups _ _) rfl rfl (by kernel_rfl) (fun _ _ _ h => h) (by rfl) (by intro x hx; have f0 := hx.load 1 6 rfl rfl; have f1 := hx.load 1 7 rfl rfl; go_simp; (first | done | exact rfl)) ?_
  simp only [List.set_cons_succ, List.set_cons_zero]
  refine take_val (i := 8) (v := .bool false) (st_ups _ _) rfl rfl (by kernel_rfl) (fun _ _ _ h => h) (by rfl) (by intro x hx; go_simp; (first | done | exact (eqPT (fun b => Result.ok (Next.value (Value.bool (!b))) x) (maxU (fromP 4#64 5#64).lo (P.mk 2#64 2#64).lo) (onesV (maxU (fromP 4#64 5#64).hi (P.mk 2#64 2#64).hi)) ((fromP 4#64 7#64).lo) ((fromP 4#64 7#64).hi)).trans (congrArg (fun b => Result.ok (Next.value (Value.bool (!b))) x) ((show (eqP (P.mk (maxU (fromP 4#64 5#64).lo (P.mk 2#64 2#64).lo) (onesV (maxU (fromP 4#64 5#64).hi (P.mk 2#64 2#64).hi))) (fromP 4#64 7#64)) = true by decide +kernel))))) ?_
  simp only [List.set_cons_succ, List.set_cons_zero]
  refine take_done (by kernel_rfl) ?_ _
  intro W14 hx
  replace HS := hid hx
  clear hx
  -- region 5
  go_upto_region 5 with fail
  refine lin_begin (St w [⟨k1, (law_SpanKnown_c0.map some), 24⟩, ⟨k2, (law_SpanKnown_c1.map some), 24⟩]) rfl HS.out ?_
  refine lin_val (i := 0) (v := .int .i64 3) rfl rfl (by rfl) (by intro x hx; go_simp; (first | done | exact rfl)) ?_
  simp only [List.set_cons_succ, List.set_cons_zero]
  refine lin_val (i := 1) (v := .int .i64 4) rfl rfl (by rfl) (by intro x hx; go_simp; (first | done | exact rfl)) ?_
  simp only [List.set_cons_succ, List.set_cons_zero]
  refine lin_val (i := 2) (v := .int .i64 4) rfl rfl (by rfl) (by intro x hx; go_simp; (first | done | exact rfl)) ?_
  simp only [List.set_cons_succ, List.set_cons_zero]
  refine lin_done ?_
  intro W15 hx
  replace HS := hid hx
  clear hx
  go_wp2
  rw [rounds_succ]
  -- region 4
  go_upto_region 4 with fail
  refine lin_begin (St w [⟨k1, (law_SpanKnown_c0.map some), 24⟩, ⟨k2, (law_SpanKnown_c1.map some), 24⟩]) rfl HS.out ?_
  refine lin_val (i := 0) (v := .int .i64 4) rfl rfl (by rfl) (by intro x hx; go_simp; (first | done | exact rfl)) ?_
  simp only [List.set_cons_succ, List.set_cons_zero]
  refine lin_val (i := 1) (v := .slice (some ⟨k1, 0, none⟩) 25 25) rfl rfl (by rfl) (by intro x hx; go_simp; (first | done | exact rfl)) ?_
  simp only [List.set_cons_succ, List.set_cons_zero]
  refine lin_val (i := 2) (v := .int .i64 25) rfl rfl (by rfl) (by intro x hx; go_simp; (first | done | exact rfl)) ?_
  simp only [List.set_cons_succ, List.set_cons_zero]
  refine lin_val (i := 3) (v := .bool true) rfl rfl (by rfl) (by intro x hx; go_simp; (first | done | exact rfl)) ?_
  simp only [List.set_cons_succ, List.set_cons_zero]
  refine lin_done ?_
  intro W16 hx
  replace HS := hid hx
  clear hx
  -- region 6
  go_upto_region 6 with fail
  refine up_begin (St w [⟨k1, (law_SpanKnown_c0.map some), 24⟩, ⟨k2, (law_SpanKnown_c1.map some), 24⟩]) 9 rfl (by kernel_rfl) (HS.out.drew) ?_
  refine take_val (i := 0) (v := .slice (some ⟨k1, 0, none⟩) 25 25) (st_ups _ _) rfl rfl (by kernel_rfl) (fun _ _ _ h => h) (by rfl) (by intro x hx; go_simp; (first | done | exact rfl)) ?_
  simp only [List.set_cons_succ, List.set_cons_zero]
  refine take_val (i := 1) (v := .int .i64 4) (st_ups _ _) rfl rfl (by kernel_rfl) (fun _ _ _ h => h) (by rfl) (by intro x hx; go_simp; (first | done | exact rfl)) ?_
  simp only [List.set_cons_succ, List.set_cons_zero]
  refine take_val (i := 2) (v := .pointer (some ⟨k1, 8, none⟩)) (st_ups _ _) rfl rfl (by kernel_rfl) (fun _ _ _ h => h) (by rfl) (by intro x hx; go_simp; (first | done | exact rfl)) ?_
  simp only [List.set_cons_succ, List.set_cons_zero]
  refine take_val (i := 3) (v := .agg #[.int .u64 (tn (0#64)), .int .u64 (tn (onesV (maxU (fromP 4#64 5#64).hi (P.mk 2#64 2#64).hi)))]) (st_ups _ _) rfl rfl (by kernel_rfl) (fun _ _ _ h => h) (by rfl) (by intro x hx; have f0 := hx.load 0 8 rfl rfl; have f1 := hx.load 0 9 rfl rfl; go_simp; (first | done | exact rfl)) ?_
  simp only [List.set_cons_succ, List.set_cons_zero]
  refine take_val (i := 4) (v := .slice (some ⟨k2, 0, none⟩) 25 25) (st_ups _ _) rfl rfl (by kernel_rfl) (fun _ _ _ h => h) (by rfl) (by intro x hx; go_simp; (first | done | exact rfl)) ?_
  simp only [List.set_cons_succ, List.set_cons_zero]
  refine take_val (i := 5) (v := .int .i64 4) (st_ups _ _) rfl rfl (by kernel_rfl) (fun _ _ _ h => h) (by rfl) (by intro x hx; go_simp; (first | done | exact rfl)) ?_
  simp only [List.set_cons_succ, List.set_cons_zero]
  refine take_val (i := 6) (v := .pointer (some ⟨k2, 8, none⟩)) (st_ups _ _) rfl rfl (by kernel_rfl) (fun _ _ _ h => h) (by rfl) (by intro x hx; go_simp; (first | done | exact rfl)) ?_
  simp only [List.set_cons_succ, List.set_cons_zero]
  refine take_val (i := 7) (v := .agg #[.int .u64 (tn ((fromP 0#64 7#64).lo)), .int .u64 (tn ((fromP 0#64 7#64).hi))]) (st_ups _ _) rfl rfl (by kernel_rfl) (fun _ _ _ h => h) (by rfl) (by intro x hx; have f0 := hx.load 1 8 rfl rfl; have f1 := hx.load 1 9 rfl rfl; go_simp; (first | done | exact rfl)) ?_
  simp only [List.set_cons_succ, List.set_cons_zero]
  refine take_val (i := 8) (v := .bool false) (st_ups _ _) rfl rfl (by kernel_rfl) (fun _ _ _ h => h) (by rfl) (by intro x hx; go_simp; (first | done | exact (eqPT (fun b => Result.ok (Next.value (Value.bool (!b))) x) 0#64 (onesV (maxU (fromP 4#64 5#64).hi (P.mk 2#64 2#64).hi)) ((fromP 0#64 7#64).lo) ((fromP 0#64 7#64).hi)).trans (congrArg (fun b => Result.ok (Next.value (Value.bool (!b))) x) ((show (eqP (P.mk 0#64 (onesV (maxU (fromP 4#64 5#64).hi (P.mk 2#64 2#64).hi))) (fromP 0#64 7#64)) = true by decide +kernel))))) ?_
  simp only [List.set_cons_succ, List.set_cons_zero]
  refine take_done (by kernel_rfl) ?_ _
  intro W17 hx
  replace HS := hid hx
  clear hx
  -- region 5
  go_upto_region 5 with fail
  refine lin_begin (St w [⟨k1, (law_SpanKnown_c0.map some), 24⟩, ⟨k2, (law_SpanKnown_c1.map some), 24⟩]) rfl HS.out ?_
  refine lin_val (i := 0) (v := .int .i64 4) rfl rfl (by rfl) (by intro x hx; go_simp; (first | done | exact rfl)) ?_
  simp only [List.set_cons_succ, List.set_cons_zero]
  refine lin_val (i := 1) (v := .int .i64 5) rfl rfl (by rfl) (by intro x hx; go_simp; (first | done | exact rfl)) ?_
  simp only [List.set_cons_succ, List.set_cons_zero]
  refine lin_val (i := 2) (v := .int .i64 5) rfl rfl (by rfl) (by intro x hx; go_simp; (first | done | exact rfl)) ?_
  simp only [List.set_cons_succ, List.set_cons_zero]
  refine lin_done ?_
  intro W18 hx
  replace HS := hid hx
  clear hx
  go_wp2
  rw [rounds_succ]
  -- region 4
  go_upto_region 4 with fail
  refine lin_begin (St w [⟨k1, (law_SpanKnown_c0.map some), 24⟩, ⟨k2, (law_SpanKnown_c1.map some), 24⟩]) rfl HS.out ?_
  refine lin_val (i := 0) (v := .int .i64 5) rfl rfl (by rfl) (by intro x hx; go_simp; (first | done | exact rfl)) ?_
  simp only [List.set_cons_succ, List.set_cons_zero]
  refine lin_val (i := 1) (v := .slice (some ⟨k1, 0, none⟩) 25 25) rfl rfl (by rfl) (by intro x hx; go_simp; (first | done | exact rfl)) ?_
  simp only [List.set_cons_succ, List.set_cons_zero]
  refine lin_val (i := 2) (v := .int .i64 25) rfl rfl (by rfl) (by intro x hx; go_simp; (first | done | exact rfl)) ?_
  simp only [List.set_cons_succ, List.set_cons_zero]
  refine lin_val (i := 3) (v := .bool true) rfl rfl (by rfl) (by intro x hx; go_simp; (first | done | exact rfl)) ?_
  simp only [List.set_cons_succ, List.set_cons_zero]
  refine lin_done ?_
  intro W19 hx
  replace HS := hid hx
  clear hx
  -- region 6
  go_upto_region 6 with fail
  refine up_begin (St w [⟨k1, (law_SpanKnown_c0.map some), 24⟩, ⟨k2, (law_SpanKnown_c1.map some), 24⟩]) 9 rfl (by kernel_rfl) (HS.out.drew) ?_
  refine take_val (i := 0) (v := .slice (some ⟨k1, 0, none⟩) 25 25) (st_ups _ _) rfl rfl (by kernel_rfl) (fun _ _ _ h => h) (by rfl) (by intro x hx; go_simp; (first | done | exact rfl)) ?_
  simp only [List.set_cons_succ, List.set_cons_zero]
  refine take_val (i := 1) (v := .int .i64 5) (st_ups _ _) rfl rfl (by kernel_rfl) (fun _ _ _ h => h) (by rfl) (by intro x hx; go_simp; (first | done | exact rfl)) ?_
  simp only [List.set_cons_succ, List.set_cons_zero]
  refine take_val (i := 2) (v := .pointer (some ⟨k1, 10, none⟩)) (st_ups _ _) rfl rfl (by kernel_rfl) (fun _ _ _ h => h) (by rfl) (by intro x hx; go_simp; (first | done | exact rfl)) ?_
  simp only [List.set_cons_succ, List.set_cons_zero]
  refine take_val (i := 3) (v := .agg #[.int .u64 (tn (0#64)), .int .u64 (tn (minU (fromP 4#64 5#64).hi (P.mk 2#64 2#64).hi))]) (st_ups _ _) rfl rfl (by kernel_rfl) (fun _ _ _ h => h) (by rfl) (by intro x hx; have f0 := hx.load 0 10 rfl rfl; have f1 := hx.load 0 11 rfl rfl; go_simp; (first | done | exact rfl)) ?_
  simp only [List.set_cons_succ, List.set_cons_zero]
  refine take_val (i := 4) (v := .slice (some ⟨k2, 0, none⟩) 25 25) (st_ups _ _) rfl rfl (by kernel_rfl) (fun _ _ _ h => h) (by rfl) (by intro x hx; go_simp; (first | done | exact rfl)) ?_
  simp only [List.set_cons_succ, List.set_cons_zero]
  refine take_val (i := 5) (v := .int .i64 5) (st_ups _ _) rfl rfl (by kernel_rfl) (fun _ _ _ h => h) (by rfl) (by intro x hx; go_simp; (first | done | exact rfl)) ?_
  simp only [List.set_cons_succ, List.set_cons_zero]
  refine take_val (i := 6) (v := .pointer (some ⟨k2, 10, none⟩)) (st_ups _ _) rfl rfl (by kernel_rfl) (fun _ _ _ h => h) (by rfl) (by intro x hx; go_simp; (first | done | exact rfl)) ?_
  simp only [List.set_cons_succ, List.set_cons_zero]
  refine take_val (i := 7) (v := .agg #[.int .u64 (tn ((fromP 0#64 2#64).lo)), .int .u64 (tn ((fromP 0#64 2#64).hi))]) (st_ups _ _) rfl rfl (by kernel_rfl) (fun _ _ _ h => h) (by rfl) (by intro x hx; have f0 := hx.load 1 10 rfl rfl; have f1 := hx.load 1 11 rfl rfl; go_simp; (first | done | exact rfl)) ?_
  simp only [List.set_cons_succ, List.set_cons_zero]
  refine take_val (i := 8) (v := .bool false) (st_ups _ _) rfl rfl (by kernel_rfl) (fun _ _ _ h => h) (by rfl) (by intro x hx; go_simp; (first | done | exact (eqPT (fun b => Result.ok (Next.value (Value.bool (!b))) x) 0#64 (minU (fromP 4#64 5#64).hi (P.mk 2#64 2#64).hi) ((fromP 0#64 2#64).lo) ((fromP 0#64 2#64).hi)).trans (congrArg (fun b => Result.ok (Next.value (Value.bool (!b))) x) ((show (eqP (P.mk 0#64 (minU (fromP 4#64 5#64).hi (P.mk 2#64 2#64).hi)) (fromP 0#64 2#64)) = true by decide +kernel))))) ?_
  simp only [List.set_cons_succ, List.set_cons_zero]
  refine take_done (by kernel_rfl) ?_ _
  intro W20 hx
  replace HS := hid hx
  clear hx
  -- region 5
  go_upto_region 5 with fail
  refine lin_begin (St w [⟨k1, (law_SpanKnown_c0.map some), 24⟩, ⟨k2, (law_SpanKnown_c1.map some), 24⟩]) rfl HS.out ?_
  refine lin_val (i := 0) (v := .int .i64 5) rfl rfl (by rfl) (by intro x hx; go_simp; (first | done | exact rfl)) ?_
  simp only [List.set_cons_succ, List.set_cons_zero]
  refine lin_val (i := 1) (v := .int .i64 6) rfl rfl (by rfl) (by intro x hx; go_simp; (first | done | exact rfl)) ?_
  simp only [List.set_cons_succ, List.set_cons_zero]
  refine lin_val (i := 2) (v := .int .i64 6) rfl rfl (by rfl) (by intro x hx; go_simp; (first | done | exact rfl)) ?_
  simp only [List.set_cons_succ, List.set_cons_zero]
  refine lin_done ?_
  intro W21 hx
  replace HS := hid hx
  clear hx
  go_wp2
  rw [rounds_succ]
  -- region 4
  go_upto_region 4 with fail
  refine lin_begin (St w [⟨k1, (law_SpanKnown_c0.map some), 24⟩, ⟨k2, (law_SpanKnown_c1.map some), 24⟩]) rfl HS.out ?_
  refine lin_val (i := 0) (v := .int .i64 6) rfl rfl (by rfl) (by intro x hx; go_simp; (first | done | exact rfl)) ?_
  simp only [List.set_cons_succ, List.set_cons_zero]
  refine lin_val (i := 1) (v := .slice (some ⟨k1, 0, none⟩) 25 25) rfl rfl (by rfl) (by intro x hx; go_simp; (first | done | exact rfl)) ?_
  simp only [List.set_cons_succ, List.set_cons_zero]
  refine lin_val (i := 2) (v := .int .i64 25) rfl rfl (by rfl) (by intro x hx; go_simp; (first | done | exact rfl)) ?_
  simp only [List.set_cons_succ, List.set_cons_zero]
  refine lin_val (i := 3) (v := .bool true) rfl rfl (by rfl) (by intro x hx; go_simp; (first | done | exact rfl)) ?_
  simp only [List.set_cons_succ, List.set_cons_zero]
  refine lin_done ?_
  intro W22 hx
  replace HS := hid hx
  clear hx
  -- region 6
  go_upto_region 6 with fail
  refine up_begin (St w [⟨k1, (law_SpanKnown_c0.map some), 24⟩, ⟨k2, (law_SpanKnown_c1.map some), 24⟩]) 9 rfl (by kernel_rfl) (HS.out.drew) ?_
  refine take_val (i := 0) (v := .slice (some ⟨k1, 0, none⟩) 25 25) (st_ups _ _) rfl rfl (by kernel_rfl) (fun _ _ _ h => h) (by rfl) (by intro x hx; go_simp; (first | done | exact rfl)) ?_
  simp only [List.set_cons_succ, List.set_cons_zero]
  refine take_val (i := 1) (v := .int .i64 6) (st_ups _ _) rfl rfl (by kernel_rfl) (fun _ _ _ h => h) (by rfl) (by intro x hx; go_simp; (first | done | exact rfl)) ?_
  simp only [List.set_cons_succ, List.set_cons_zero]
  refine take_val (i := 2) (v := .pointer (some ⟨k1, 12, none⟩)) (st_ups _ _) rfl rfl (by kernel_rfl) (fun _ _ _ h => h) (by rfl) (by intro x hx; go_simp; (first | done | exact rfl)) ?_
  simp only [List.set_cons_succ, List.set_cons_zero]
  refine take_val (i := 3) (v := .agg #[.int .u64 (tn ((span_Div (fromP 7#64 9#64) (fromP 0#64 2#64)).lo)), .int .u64 (tn ((span_Div (fromP 7#64 9#64) (fromP 0#64 2#64)).hi))]) (st_ups _ _) rfl rfl (by kernel_rfl) (fun _ _ _ h => h) (by rfl) (by intro x hx; have f0 := hx.load 0 12 rfl rfl; have f1 := hx.load 0 13 rfl rfl; go_simp; (first | done | exact rfl)) ?_
  simp only [List.set_cons_succ, List.set_cons_zero]
  refine take_val (i := 4) (v := .slice (some ⟨k2, 0, none⟩) 25 25) (st_ups _ _) rfl rfl (by kernel_rfl) (fun _ _ _ h => h) (by rfl) (by intro x hx; go_simp; (first | done | exact rfl)) ?_
  simp only [List.set_cons_succ, List.set_cons_zero]
  refine take_val (i := 5) (v := .int .i64 6) (st_ups _ _) rfl rfl (by kernel_rfl) (fun _ _ _ h => h) (by rfl) (by intro x hx; go_simp; (first | done | exact rfl)) ?_
  simp only [List.set_cons_succ, List.set_cons_zero]
  refine take_val (i := 6) (v := .pointer (some ⟨k2, 12, none⟩)) (st_ups _ _) rfl rfl (by kernel_rfl) (fun _ _ _ h => h) (by rfl) (by intro x hx; go_simp; (first | done | exact rfl)) ?_
  simp only [List.set_cons_succ, List.set_cons_zero]
  refine take_val (i := 7) (v := .agg #[.int .u64 (tn ((fromP 0#64 9#64).lo)), .int .u64 (tn ((fromP 0#64 9#64).hi))]) (st_ups _ _) rfl rfl (by kernel_rfl) (fun _ _ _ h => h) (by rfl) (by intro x hx; have f0 := hx.load 1 12 rfl rfl; have f1 := hx.load 1 13 rfl rfl; go_simp; (first | done | exact rfl)) ?_
  simp only [List.set_cons_succ, List.set_cons_zero]
  refine take_val (i := 8) (v := .bool false) (st_ups _ _) rfl rfl (by kernel_rfl) (fun _ _ _ h => h) (by rfl) (by intro x hx; go_simp; (first | done | exact (eqPT (fun b => Result.ok (Next.value (Value.bool (!b))) x) ((span_Div (fromP 7#64 9#64) (fromP 0#64 2#64)).lo) ((span_Div (fromP 7#64 9#64) (fromP 0#64 2#64)).hi) ((fromP 0#64 9#64).lo) ((fromP 0#64 9#64).hi)).trans (congrArg (fun b => Result.ok (Next.value (Value.bool (!b))) x) ((show (eqP (span_Div (fromP 7#64 9#64) (fromP 0#64 2#64)) (fromP 0#64 9#64)) = true by decide +kernel))))) ?_
  simp only [List.set_cons_succ, List.set_cons_zero]
  refine take_done (by kernel_rfl) ?_ _
  intro W23 hx
  replace HS := hid hx
  clear hx
  -- region 5
  go_upto_region 5 with fail
  refine lin_begin (St w [⟨k1, (law_SpanKnown_c0.map some), 24⟩, ⟨k2, (law_SpanKnown_c1.map some), 24⟩]) rfl HS.out ?_
  refine lin_val (i := 0) (v := .int .i64 6) rfl rfl (by rfl) (by intro x hx; go_simp; (first | done | exact rfl)) ?_
  simp only [List.set_cons_succ, List.set_cons_zero]
  refine lin_val (i := 1) (v := .int .i64 7) rfl rfl (by rfl) (by intro x hx; go_simp; (first | done | exact rfl)) ?_
  simp only [List.set_cons_succ, List.set_cons_zero]
  refine lin_val (i := 2) (v := .int .i64 7) rfl rfl (by rfl) (by intro x hx; go_simp; (first | done | exact rfl)) ?_
  simp only [List.set_cons_succ, List.set_cons_zero]
  refine lin_done ?_
  intro W24 hx
  replace HS := hid hx
  clear hx
  go_wp2
  rw [rounds_succ]
  -- region 4
  go_upto_region 4 with fail
  refine lin_begin (St w [⟨k1, (law_SpanKnown_c0.map some), 24⟩, ⟨k2, (law_SpanKnown_c1.map some), 24⟩]) rfl HS.out ?_
  refine lin_val (i := 0) (v := .int .i64 7) rfl rfl (by rfl) (by intro x hx; go_simp; (first | done | exact rfl)) ?_
  simp only [List.set_cons_succ, List.set_cons_zero]
  refine lin_val (i := 1) (v := .slice (some ⟨k1, 0, none⟩) 25 25) rfl rfl (by rfl) (by intro x hx; go_simp; (first | done | exact rfl)) ?_
  simp only [List.set_cons_succ, List.set_cons_zero]
  refine lin_val (i := 2) (v := .int .i64 25) rfl rfl (by rfl) (by intro x hx; go_simp; (first | done | exact rfl)) ?_
  simp only [List.set_cons_succ, List.set_cons_zero]
  refine lin_val (i := 3) (v := .bool true) rfl rfl (by rfl) (by intro x hx; go_simp; (first | done | exact rfl)) ?_
  simp only [List.set_cons_succ, List.set_cons_zero]
  refine lin_done ?_
  intro W25 hx
  replace HS := hid hx
  clear hx
  -- region 6
  go_upto_region 6 with fail
  refine up_begin (St w [⟨k1, (law_SpanKnown_c0.map some), 24⟩, ⟨k2, (law_SpanKnown_c1.map some), 24⟩]) 9 rfl (by kernel_rfl) (HS.out.drew) ?_
  refine take_val (i := 0) (v := .slice (some ⟨k1, 0, none⟩) 25 25) (st_ups _ _) rfl rfl (by kernel_rfl) (fun _ _ _ h => h) (by rfl) (by intro x hx; go_simp; (first | done | exact rfl)) ?_
  simp only [List.set_cons_succ, List.set_cons_zero]
  refine take_val (i := 1) (v := .int .i64 7) (st_ups _ _) rfl rfl (by kernel_rfl) (fun _ _ _ h => h) (by rfl) (by intro x hx; go_simp; (first | done | exact rfl)) ?_
  simp only [List.set_cons_succ, List.set_cons_zero]
  refine take_val (i := 2) (v := .pointer (some ⟨k1, 14, none⟩)) (st_ups _ _) rfl rfl (by kernel_rfl) (fun _ _ _ h => h) (by rfl) (by intro x hx; go_simp; (first | done | exact rfl)) ?_
  simp only [List.set_cons_succ, List.set_cons_zero]
  refine take_val (i := 3) (v := .agg #[.int .u64 (tn ((span_Mod (fromP 7#64 9#64) (P.mk 4#64 4#64)).lo)), .int .u64 (tn ((span_Mod (fromP 7#64 9#64) (P.mk 4#64 4#64)).hi))]) (st_ups _ _) rfl rfl (by kernel_rfl) (fun _ _ _ h => h) (by rfl) (by intro x hx; have f0 := hx.load 0 14 rfl rfl; have f1 := hx.load 0 15 rfl rfl; go_simp; (first | done | exact rfl)) ?_
  simp only [List.set_cons_succ, List.set_cons_zero]
  refine take_val (i := 4) (v := .slice (some ⟨k2, 0, none⟩) 25 25) (st_ups _ _) rfl rfl (by kernel_rfl) (fun _ _ _ h => h) (by rfl) (by intro x hx; go_simp; (first | done | exact rfl)) ?_
  simp only [List.set_cons_succ, List.set_cons_zero]
  refine take_val (i := 5) (v := .int .i64 7) (st_ups _ _) rfl rfl (by kernel_rfl) (fun _ _ _ h => h) (by rfl) (by intro x hx; go_simp; (first | done | exact rfl)) ?_
  simp only [List.set_cons_succ, List.set_cons_zero]
  refine take_val (i := 6) (v := .pointer (some ⟨k2, 14, none⟩)) (st_ups _ _) rfl rfl (by kernel_rfl) (fun _ _ _ h => h) (by rfl) (by intro x hx; go_simp; (first | done | exact rfl)) ?_
  simp only [List.set_cons_succ, List.set_cons_zero]
  refine take_val (i := 7) (v := .agg #[.int .u64 (tn ((fromP 0#64 3#64).lo)), .int .u64 (tn ((fromP 0#64 3#64).hi))]) (st_ups _ _) rfl rfl (by kernel_rfl) (fun _ _ _ h => h) (by rfl) (by intro x hx; have f0 := hx.load 1 14 rfl rfl; have f1 := hx.load 1 15 rfl rfl; go_simp; (first | done | exact rfl)) ?_
  simp only [List.set_cons_succ, List.set_cons_zero]
  refine take_val (i := 8) (v := .bool false) (st_ups _ _) rfl rfl (by kernel_rfl) (fun _ _ _ h => h) (by rfl) (by intro x hx; go_simp; (first | done | exact (eqPT (fun b => Result.ok (Next.value (Value.bool (!b))) x) ((span_Mod (fromP 7#64 9#64) (P.mk 4#64 4#64)).lo) ((span_Mod (fromP 7#64 9#64) (P.mk 4#64 4#64)).hi) ((fromP 0#64 3#64).lo) ((fromP 0#64 3#64).hi)).trans (congrArg (fun b => Result.ok (Next.value (Value.bool (!b))) x) ((show (eqP (span_Mod (fromP 7#64 9#64) (P.mk 4#64 4#64)) (fromP 0#64 3#64)) = true by decide +kernel))))) ?_
  simp only [List.set_cons_succ, List.set_cons_zero]
  refine take_done (by kernel_rfl) ?_ _
  intro W26 hx
  replace HS := hid hx
  clear hx
  -- region 5
  go_upto_region 5 with fail
  refine lin_begin (St w [⟨k1, (law_SpanKnown_c0.map some), 24⟩, ⟨k2, (law_SpanKnown_c1.map some), 24⟩]) rfl HS.out ?_
  refine lin_val (i := 0) (v := .int .i64 7) rfl rfl (by rfl) (by intro x hx; go_simp; (first | done | exact rfl)) ?_
  simp only [List.set_cons_succ, List.set_cons_zero]
  refine lin_val (i := 1) (v := .int .i64 8) rfl rfl (by rfl) (by intro x hx; go_simp; (first | done | exact rfl)) ?_
  simp only [List.set_cons_succ, List.set_cons_zero]
  refine lin_val (i := 2) (v := .int .i64 8) rfl rfl (by rfl) (by intro x hx; go_simp; (first | done | exact rfl)) ?_
  simp only [List.set_cons_succ, List.set_cons_zero]
  refine lin_done ?_
  intro W27 hx
  replace HS := hid hx
  clear hx
  go_wp2
  rw [rounds_succ]
  -- region 4
  go_upto_region 4 with fail
  refine lin_begin (St w [⟨k1, (law_SpanKnown_c0.map some), 24⟩, ⟨k2, (law_SpanKnown_c1.map some), 24⟩]) rfl HS.out ?_
  refine lin_val (i := 0) (v := .int .i64 8) rfl rfl (by rfl) (by intro x hx; go_simp; (first | done | exact rfl)) ?_
  simp only [List.set_cons_succ, List.set_cons_zero]
  refine lin_val (i := 1) (v := .slice (some ⟨k1, 0, none⟩) 25 25) rfl rfl (by rfl) (by intro x hx; go_simp; (first | done | exact rfl)) ?_
  simp only [List.set_cons_succ, List.set_cons_zero]
  refine lin_val (i := 2) (v := .int .i64 25) rfl rfl (by rfl) (by intro x hx; go_simp; (first | done | exact rfl)) ?_
  simp only [List.set_cons_succ, List.set_cons_zero]
  refine lin_val (i := 3) (v := .bool true) rfl rfl (by rfl) (by intro x hx; go_simp; (first | done | exact rfl)) ?_
  simp only [List.set_cons_succ, List.set_cons_zero]
  refine lin_done ?_
  intro W28 hx
  replace HS := hid hx
  clear hx
  -- region 6
  go_upto_region 6 with fail
  refine up_begin (St w [⟨k1, (law_SpanKnown_c0.map some), 24⟩, ⟨k2, (law_SpanKnown_c1.map some), 24⟩]) 9 rfl (by kernel_rfl) (HS.out.drew) ?_
  refine take_val (i := 0) (v := .slice (some ⟨k1, 0, none⟩) 25 25) (st_ups _ _) rfl rfl (by kernel_rfl) (fun _ _ _ h => h) (by rfl) (by intro x hx; go_simp; (first | done | exact rfl)) ?_
  simp only [List.set_cons_succ, List.set_cons_zero]
  refine take_val (i := 1) (v := .int .i64 8) (st_ups _ _) rfl rfl (by kernel_rfl) (fun _ _ _ h => h) (by rfl) (by intro x hx; go_simp; (first | done | exact rfl)) ?_
  simp only [List.set_cons_succ, List.set_cons_zero]
  refine take_val (i := 2) (v := .pointer (some ⟨k1, 16, none⟩)) (st_ups _ _) rfl rfl (by kernel_rfl) (fun _ _ _ h => h) (by rfl) (by intro x hx; go_simp; (first | done | exact rfl)) ?_
  simp only [List.set_cons_succ, List.set_cons_zero]
  refine take_val (i := 3) (v := .agg #[.int .u64 (tn ((span_Cut (fromP 4294967295#64 4294967296#64)).lo)), .int .u64 (tn ((span_Cut (fromP 4294967295#64 4294967296#64)).hi))]) (st_ups _ _) rfl rfl (by kernel_rfl) (fun _ _ _ h => h) (by rfl) (by intro x hx; have f0 := hx.load 0 16 rfl rfl; have f1 := hx.load 0 17 rfl rfl; go_simp; (first | done | exact rfl)) ?_
  simp only [List.set_cons_succ, List.set_cons_zero]
  refine take_val (i := 4) (v := .slice (some ⟨k2, 0, none⟩) 25 25) (st_ups _ _) rfl rfl (by kernel_rfl) (fun _ _ _ h => h) (by rfl) (by intro x hx; go_simp; (first | done | exact rfl)) ?_
  simp only [List.set_cons_succ, List.set_cons_zero]
  refine take_val (i := 5) (v := .int .i64 8) (st_ups _ _) rfl rfl (by kernel_rfl) (fun _ _ _ h => h) (by rfl) (by intro x hx; go_simp; (first | done | exact rfl)) ?_
  simp only [List.set_cons_succ, List.set_cons_zero]
  refine take_val (i := 6) (v := .pointer (some ⟨k2, 16, none⟩)) (st_ups _ _) rfl rfl (by kernel_rfl) (fun _ _ _ h => h) (by rfl) (by intro x hx; go_simp; (first | done | exact rfl)) ?_
  simp only [List.set_cons_succ, List.set_cons_zero]
  refine take_val (i := 7) (v := .agg #[.int .u64 (tn ((fromP 0#64 4294967295#64).lo)), .int .u64 (tn ((fromP 0#64 4294967295#64).hi))]) (st_ups _ _) rfl rfl (by kernel_rfl) (fun _ _ _ h => h) (by rfl) (by intro x hx; have f0 := hx.load 1 16 rfl rfl; have f1 := hx.load 1 17 rfl rfl; go_simp; (first | done | exact rfl)) ?_
  simp only [List.set_cons_succ, List.set_cons_zero]
  refine take_val (i := 8) (v := .bool false) (st_ups _ _) rfl rfl (by kernel_rfl) (fun _ _ _ h => h) (by rfl) (by intro x hx; go_simp; (first | done | exact (eqPT (fun b => Result.ok (Next.value (Value.bool (!b))) x) ((span_Cut (fromP 4294967295#64 4294967296#64)).lo) ((span_Cut (fromP 4294967295#64 4294967296#64)).hi) ((fromP 0#64 4294967295#64).lo) ((fromP 0#64 4294967295#64).hi)).trans (congrArg (fun b => Result.ok (Next.value (Value.bool (!b))) x) ((show (eqP (span_Cut (fromP 4294967295#64 4294967296#64)) (fromP 0#64 4294967295#64)) = true by decide +kernel))))) ?_
  simp only [List.set_cons_succ, List.set_cons_zero]
  refine take_done (by kernel_rfl) ?_ _
  intro W29 hx
  replace HS := hid hx
  clear hx
  -- region 5
  go_upto_region 5 with fail
  refine lin_begin (St w [⟨k1, (law_SpanKnown_c0.map some), 24⟩, ⟨k2, (law_SpanKnown_c1.map some), 24⟩]) rfl HS.out ?_
  refine lin_val (i := 0) (v := .int .i64 8) rfl rfl (by rfl) (by intro x hx; go_simp; (first | done | exact rfl)) ?_
  simp only [List.set_cons_succ, List.set_cons_zero]
  refine lin_val (i := 1) (v := .int .i64 9) rfl rfl (by rfl) (by intro x hx; go_simp; (first | done | exact rfl)) ?_
  simp only [List.set_cons_succ, List.set_cons_zero]
  refine lin_val (i := 2) (v := .int .i64 9) rfl rfl (by rfl) (by intro x hx; go_simp; (first | done | exact rfl)) ?_
  simp only [List.set_cons_succ, List.set_cons_zero]
  refine lin_done ?_
  intro W30 hx
  replace HS := hid hx
  clear hx
  go_wp2
  rw [rounds_succ]
  -- region 4
  go_upto_region 4 with fail
  refine lin_begin (St w [⟨k1, (law_SpanKnown_c0.map some), 24⟩, ⟨k2, (law_SpanKnown_c1.map some), 24⟩]) rfl HS.out ?_
  refine lin_val (i := 0) (v := .int .i64 9) rfl rfl (by rfl) (by intro x hx; go_simp; (first | done | exact rfl)) ?_
  simp only [List.set_cons_succ, List.set_cons_zero]
  refine lin_val (i := 1) (v := .slice (some ⟨k1, 0, none⟩) 25 25) rfl rfl (by rfl) (by intro x hx; go_simp; (first | done | exact rfl)) ?_
  simp only [List.set_cons_succ, List.set_cons_zero]
  refine lin_val (i := 2) (v := .int .i64 25) rfl rfl (by rfl) (by intro x hx; go_simp; (first | done | exact rfl)) ?_
  simp only [List.set_cons_succ, List.set_cons_zero]
  refine lin_val (i := 3) (v := .bool true) rfl rfl (by rfl) (by intro x hx; go_simp; (first | done | exact rfl)) ?_
  simp only [List.set_cons_succ, List.set_cons_zero]
  refine lin_done ?_
  intro W31 hx
  replace HS := hid hx
  clear hx
  -- region 6
  go_upto_region 6 with fail
  refine up_begin (St w [⟨k1, (law_SpanKnown_c0.map some), 24⟩, ⟨k2, (law_SpanKnown_c1.map some), 24⟩]) 9 rfl (by kernel_rfl) (HS.out.drew) ?_
  refine take_val (i := 0) (v := .slice (some ⟨k1, 0, none⟩) 25 25) (st_ups _ _) rfl rfl (by kernel_rfl) (fun _ _ _ h => h) (by rfl) (by intro x hx; go_simp; (first | done | exact rfl)) ?_
  simp only [List.set_cons_succ, List.set_cons_zero]
  refine take_val (i := 1) (v := .int .i64 9) (st_ups _ _) rfl rfl (by kernel_rfl) (fun _ _ _ h => h) (by rfl) (by intro x hx; go_simp; (first | done | exact rfl)) ?_
  simp only [List.set_cons_succ, List.set_cons_zero]
  refine take_val (i := 2) (v := .pointer (some ⟨k1, 18, none⟩)) (st_ups _ _) rfl rfl (by kernel_rfl) (fun _ _ _ h => h) (by rfl) (by intro x hx; go_simp; (first | done | exact rfl)) ?_
  simp only [List.set_cons_succ, List.set_cons_zero]
  refine take_val (i := 3) (v := .agg #[.int .u64 (tn ((span_Cut (fromP 4294967299#64 4294967301#64)).lo)), .int .u64 (tn ((span_Cut (fromP 4294967299#64 4294967301#64)).hi))]) (st_ups _ _) rfl rfl (by kernel_rfl) (fun _ _ _ h => h) (by rfl) (by intro x hx; have f0 := hx.load 0 18 rfl rfl; have f1 := hx.load 0 19 rfl rfl; go_simp; (first | done | exact rfl)) ?_
  simp only [List.set_cons_succ, List.set_cons_zero]
  refine take_val (i := 4) (v := .slice (some ⟨k2, 0, none⟩) 25 25) (st_ups _ _) rfl rfl (by kernel_rfl) (fun _ _ _ h => h) (by rfl) (by intro x hx; go_simp; (first | done | exact rfl)) ?_
  simp only [List.set_cons_succ, List.set_cons_zero]
  refine take_val (i := 5) (v := .int .i64 9) (st_ups _ _) rfl rfl (by kernel_rfl) (fun _ _ _ h => h) (by rfl) (by intro x hx; go_simp; (first | done | exact rfl)) ?_
  simp only [List.set_cons_succ, List.set_cons_zero]
  refine take_val (i := 6) (v := .pointer (some ⟨k2, 18, none⟩)) (st_ups _ _) rfl rfl (by kernel_rfl) (fun _ _ _ h => h) (by rfl) (by intro x hx; go_simp; (first | done | exact rfl)) ?_
  simp only [List.set_cons_succ, List.set_cons_zero]
  refine take_val (i := 7) (v := .agg #[.int .u64 (tn ((fromP 3#64 5#64).lo)), .int .u64 (tn ((fromP 3#64 5#64).hi))]) (st_ups _ _) rfl rfl (by kernel_rfl) (fun _ _ _ h => h) (by rfl) (by intro x hx; have f0 := hx.load 1 18 rfl rfl; have f1 := hx.load 1 19 rfl rfl; go_simp; (first | done | exact rfl)) ?_
  simp only [List.set_cons_succ, List.set_cons_zero]
  refine take_val (i := 8) (v := .bool false) (st_ups _ _) rfl rfl (by kernel_rfl) (fun _ _ _ h => h) (by rfl) (by intro x hx; go_simp; (first | done | exact (eqPT (fun b => Result.ok (Next.value (Value.bool (!b))) x) ((span_Cut (fromP 4294967299#64 4294967301#64)).lo) ((span_Cut (fromP 4294967299#64 4294967301#64)).hi) ((fromP 3#64 5#64).lo) ((fromP 3#64 5#64).hi)).trans (congrArg (fun b => Result.ok (Next.value (Value.bool (!b))) x) ((show (eqP (span_Cut (fromP 4294967299#64 4294967301#64)) (fromP 3#64 5#64)) = true by decide +kernel))))) ?_
  simp only [List.set_cons_succ, List.set_cons_zero]
  refine take_done (by kernel_rfl) ?_ _
  intro W32 hx
  replace HS := hid hx
  clear hx
  -- region 5
  go_upto_region 5 with fail
  refine lin_begin (St w [⟨k1, (law_SpanKnown_c0.map some), 24⟩, ⟨k2, (law_SpanKnown_c1.map some), 24⟩]) rfl HS.out ?_
  refine lin_val (i := 0) (v := .int .i64 9) rfl rfl (by rfl) (by intro x hx; go_simp; (first | done | exact rfl)) ?_
  simp only [List.set_cons_succ, List.set_cons_zero]
  refine lin_val (i := 1) (v := .int .i64 10) rfl rfl (by rfl) (by intro x hx; go_simp; (first | done | exact rfl)) ?_
  simp only [List.set_cons_succ, List.set_cons_zero]
  refine lin_val (i := 2) (v := .int .i64 10) rfl rfl (by rfl) (by intro x hx; go_simp; (first | done | exact rfl)) ?_
  simp only [List.set_cons_succ, List.set_cons_zero]
  refine lin_done ?_
  intro W33 hx
  replace HS := hid hx
  clear hx
  go_wp2
  rw [rounds_succ]
  -- region 4
  go_upto_region 4 with fail
  refine lin_begin (St w [⟨k1, (law_SpanKnown_c0.map some), 24⟩, ⟨k2, (law_SpanKnown_c1.map some), 24⟩]) rfl HS.out ?_
  refine lin_val (i := 0) (v := .int .i64 10) rfl rfl (by rfl) (by intro x hx; go_simp; (first | done | exact rfl)) ?_
  simp only [List.set_cons_succ, List.set_cons_zero]
  refine lin_val (i := 1) (v := .slice (some ⟨k1, 0, none⟩) 25 25) rfl rfl (by rfl) (by intro x hx; go_simp; (first | done | exact rfl)) ?_
  simp only [List.set_cons_succ, List.set_cons_zero]
  refine lin_val (i := 2) (v := .int .i64 25) rfl rfl (by rfl) (by intro x hx; go_simp; (first | done | exact rfl)) ?_
  simp only [List.set_cons_succ, List.set_cons_zero]
  refine lin_val (i := 3) (v := .bool true) rfl rfl (by rfl) (by intro x hx; go_simp; (first | done | exact rfl)) ?_
  simp only [List.set_cons_succ, List.set_cons_zero]
  refine lin_done ?_
  intro W34 hx
  replace HS := hid hx
  clear hx
  -- region 6
  go_upto_region 6 with fail
  refine up_begin (St w [⟨k1, (law_SpanKnown_c0.map some), 24⟩, ⟨k2, (law_SpanKnown_c1.map some), 24⟩]) 9 rfl (by kernel_rfl) (HS.out.drew) ?_
  refine take_val (i := 0) (v := .slice (some ⟨k1, 0, none⟩) 25 25) (st_ups _ _) rfl rfl (by kernel_rfl) (fun _ _ _ h => h) (by rfl) (by intro x hx; go_simp; (first | done | exact rfl)) ?_
  simp only [List.set_cons_succ, List.set_cons_zero]
  refine take_val (i := 1) (v := .int .i64 10) (st_ups _ _) rfl rfl (by kernel_rfl) (fun _ _ _ h => h) (by rfl) (by intro x hx; go_simp; (first | done | exact rfl)) ?_
  simp only [List.set_cons_succ, List.set_cons_zero]
  refine take_val (i := 2) (v := .pointer (some ⟨k1, 20, none⟩)) (st_ups _ _) rfl rfl (by kernel_rfl) (fun _ _ _ h => h) (by rfl) (by intro x hx; go_simp; (first | done | exact rfl)) ?_
  simp only [List.set_cons_succ, List.set_cons_zero]
  refine take_val (i := 3) (v := .agg #[.int .u64 (tn ((span_Mul (fromP 2#64 3#64) (fromP 4#64 5#64)).lo)), .int .u64 (tn ((span_Mul (fromP 2#64 3#64) (fromP 4#64 5#64)).hi))]) (st_ups _ _) rfl rfl (by kernel_rfl) (fun _ _ _ h => h) (by rfl) (by intro x hx; have f0 := hx.load 0 20 rfl rfl; have f1 := hx.load 0 21 rfl rfl; go_simp; (first | done | exact rfl)) ?_
  simp only [List.set_cons_succ, List.set_cons_zero]
  refine take_val (i := 4) (v := .slice (some ⟨k2, 0, none⟩) 25 25) (st_ups _ _) rfl rfl (by kernel_rfl) (fun _ _ _ h => h) (by rfl) (by intro x hx; go_simp; (first | done | exact rfl)) ?_
  simp only [List.set_cons_succ, List.set_cons_zero]
  refine take_val (i := 5) (v := .int .i64 10) (st_ups _ _) rfl rfl (by kernel_rfl) (fun _ _ _ h => h) (by rfl) (by intro x hx; go_simp; (first | done | exact rfl)) ?_
  simp only [List.set_cons_succ, List.set_cons_zero]
  refine take_val (i := 6) (v := .pointer (some ⟨k2, 20, none⟩)) (st_ups _ _) rfl rfl (by kernel_rfl) (fun _ _ _ h => h) (by rfl) (by intro x hx; go_simp; (first | done | exact rfl)) ?_
  simp only [List.set_cons_succ, List.set_cons_zero]
  refine take_val (i := 7) (v := .agg #[.int .u64 (tn ((fromP 8#64 15#64).lo)), .int .u64 (tn ((fromP 8#64 15#64).hi))]) (st_ups _ _) rfl rfl (by kernel_rfl) (fun _ _ _ h => h) (by rfl) (by intro x hx; have f0 := hx.load 1 20 rfl rfl; have f1 := hx.load 1 21 rfl rfl; go_simp; (first | done | exact rfl)) ?_
  simp only [List.set_cons_succ, List.set_cons_zero]
  refine take_val (i := 8) (v := .bool false) (st_ups _ _) rfl rfl (by kernel_rfl) (fun _ _ _ h => h) (by rfl) (by intro x hx; go_simp; (first | done | exact (eqPT (fun b => Result.ok (Next.value (Value.bool (!b))) x) ((span_Mul (fromP 2#64 3#64) (fromP 4#64 5#64)).lo) ((span_Mul (fromP 2#64 3#64) (fromP 4#64 5#64)).hi) ((fromP 8#64 15#64).lo) ((fromP 8#64 15#64).hi)).trans (congrArg (fun b => Result.ok (Next.value (Value.bool (!b))) x) ((show (eqP (span_Mul (fromP 2#64 3#64) (fromP 4#64 5#64)) (fromP 8#64 15#64)) = true by decide +kernel))))) ?_
  simp only [List.set_cons_succ, List.set_cons_zero]
  refine take_done (by kernel_rfl) ?_ _
  intro W35 hx
  replace HS := hid hx
  clear hx
  -- region 5
  go_upto_region 5 with fail
  refine lin_begin (St w [⟨k1, (law_SpanKnown_c0.map some), 24⟩, ⟨k2, (law_SpanKnown_c1.map some), 24⟩]) rfl HS.out ?_
  refine lin_val (i := 0) (v := .int .i64 10) rfl rfl (by rfl) (by intro x hx; go_simp; (first | done | exact rfl)) ?_
  simp only [List.set_cons_succ, List.set_cons_zero]
  refine lin_val (i := 1) (v := .int .i64 11) rfl rfl (by rfl) (by intro x hx; go_simp; (first | done | exact rfl)) ?_
  simp only [List.set_cons_succ, List.set_cons_zero]
  refine lin_val (i := 2) (v := .int .i64 11) rfl rfl (by rfl) (by intro x hx; go_simp; (first | done | exact rfl)) ?_
  simp only [List.set_cons_succ, List.set_cons_zero]
  refine lin_done ?_
  intro W36 hx
  replace HS := hid hx
  clear hx
  go_wp2
  rw [rounds_succ]
  -- region 4
  go_upto_region 4 with fail
  refine lin_begin (St w [⟨k1, (law_SpanKnown_c0.map some), 24⟩, ⟨k2, (law_SpanKnown_c1.map some), 24⟩]) rfl HS.out ?_
  refine lin_val (i := 0) (v := .int .i64 11) rfl rfl (by rfl) (by intro x hx; go_simp; (first | done | exact rfl)) ?_
  simp only [List.set_cons_succ, List.set_cons_zero]
  refine lin_val (i := 1) (v := .slice (some ⟨k1, 0, none⟩) 25 25) rfl rfl (by rfl) (by intro x hx; go_simp; (first | done | exact rfl)) ?_
  simp only [List.set_cons_succ, List.set_cons_zero]
  refine lin_val (i := 2) (v := .int .i64 25) rfl rfl (by rfl) (by intro x hx; go_simp; (first | done | exact rfl)) ?_
  simp only [List.set_cons_succ, List.set_cons_zero]
  refine lin_val (i := 3) (v := .bool true) rfl rfl (by rfl) (by intro x hx; go_simp; (first | done | exact rfl)) ?_
  simp only [List.set_cons_succ, List.set_cons_zero]
  refine lin_done ?_
  intro W37 hx
  replace HS := hid hx
  clear hx
  -- region 6
  go_upto_region 6 with fail
  refine up_begin (St w [⟨k1, (law_SpanKnown_c0.map some), 24⟩, ⟨k2, (law_SpanKnown_c1.map some), 24⟩]) 9 rfl (by kernel_rfl) (HS.out.drew) ?_
  refine take_val (i := 0) (v := .slice (some ⟨k1, 0, none⟩) 25 25) (st_ups _ _) rfl rfl (by kernel_rfl) (fun _ _ _ h => h) (by rfl) (by intro x hx; go_simp; (first | done | exact rfl)) ?_
  simp only [List.set_cons_succ, List.set_cons_zero]
  refine take_val (i := 1) (v := .int .i64 11) (st_ups _ _) rfl rfl (by kernel_rfl) (fun _ _ _ h => h) (by rfl) (by intro x hx; go_simp; (first | done | exact rfl)) ?_
  simp only [List.set_cons_succ, List.set_cons_zero]
  refine take_val (i := 2) (v := .pointer (some ⟨k1, 22, none⟩)) (st_ups _ _) rfl rfl (by kernel_rfl) (fun _ _ _ h => h) (by rfl) (by intro x hx; go_simp; (first | done | exact rfl)) ?_
  simp only [List.set_cons_succ, List.set_cons_zero]
  refine take_val (i := 3) (v := .agg #[.int .u64 (tn ((span_Mul (fromP 0#64 4294967296#64) (fromP 0#64 4294967296#64)).lo)), .int .u64 (tn ((span_Mul (fromP 0#64 4294967296#64) (fromP 0#64 4294967296#64)).hi))]) (st_ups _ _) rfl rfl (by kernel_rfl) (fun _ _ _ h => h) (by rfl) (by intro x hx; have f0 := hx.load 0 22 rfl rfl; have f1 := hx.load 0 23 rfl rfl; go_simp; (first | done | exact rfl)) ?_
  simp only [List.set_cons_succ, List.set_cons_zero]
  refine take_val (i := 4) (v := .slice (some ⟨k2, 0, none⟩) 25 25) (st_ups _ _) rfl rfl (by kernel_rfl) (fun _ _ _ h => h) (by rfl) (by intro x hx; go_simp; (first | done | exact rfl)) ?_
  simp only [List.set_cons_succ, List.set_cons_zero]
  refine take_val (i := 5) (v := .int .i64 11) (st_ups _ _) rfl rfl (by kernel_rfl) (fun _ _ _ h => h) (by rfl) (by intro x hx; go_simp; (first | done | exact rfl)) ?_
  simp only [List.set_cons_succ, List.set_cons_zero]
  refine take_val (i := 6) (v := .pointer (some ⟨k2, 22, none⟩)) (st_ups _ _) rfl rfl (by kernel_rfl) (fun _ _ _ h => h) (by rfl) (by intro x hx; go_simp; (first | done | exact rfl)) ?_
  simp only [List.set_cons_succ, List.set_cons_zero]
  refine take_val (i := 7) (v := .agg #[.int .u64 (tn (0#64)), .int .u64 (tn (18446744073709551615#64))]) (st_ups _ _) rfl rfl (by kernel_rfl) (fun _ _ _ h => h) (by rfl) (by intro x hx; have f0 := hx.load 1 22 rfl rfl; have f1 := hx.load 1 23 rfl rfl; go_simp; (first | done | exact rfl)) ?_
  simp only [List.set_cons_succ, List.set_cons_zero]
  refine take_val (i := 8) (v := .bool false) (st_ups _ _) rfl rfl (by kernel_rfl) (fun _ _ _ h => h) (by rfl) (by intro x hx; go_simp; (first | done | exact (eqPT (fun b => Result.ok (Next.value (Value.bool (!b))) x) ((span_Mul (fromP 0#64 4294967296#64) (fromP 0#64 4294967296#64)).lo) ((span_Mul (fromP 0#64 4294967296#64) (fromP 0#64 4294967296#64)).hi) 0#64 18446744073709551615#64).trans (congrArg (fun b => Result.ok (Next.value (Value.bool (!b))) x) ((show (eqP (span_Mul (fromP 0#64 4294967296#64) (fromP 0#64 4294967296#64)) (P.mk 0#64 18446744073709551615#64)) = true by decide +kernel))))) ?_
  simp only [List.set_cons_succ, List.set_cons_zero]
  refine take_done (by kernel_rfl) ?_ _
  intro W38 hx
  replace HS := hid hx
  clear hx
  -- region 5
  go_upto_region 5 with fail
  refine lin_begin (St w [⟨k1, (law_SpanKnown_c0.map some), 24⟩, ⟨k2, (law_SpanKnown_c1.map some), 24⟩]) rfl HS.out ?_
  refine lin_val (i := 0) (v := .int .i64 11) rfl rfl (by rfl) (by intro x hx; go_simp; (first | done | exact rfl)) ?_
  simp only [List.set_cons_succ, List.set_cons_zero]
  refine lin_val (i := 1) (v := .int .i64 12) rfl rfl (by rfl) (by intro x hx; go_simp; (first | done | exact rfl)) ?_
  simp only [List.set_cons_succ, List.set_cons_zero]
  refine lin_val (i := 2) (v := .int .i64 12) rfl rfl (by rfl) (by intro x hx; go_simp; (first | done | exact rfl)) ?_
  simp only [List.set_cons_succ, List.set_cons_zero]
  refine lin_done ?_
  intro W39 hx
  replace HS := hid hx
  clear hx
  go_wp2
  rw [rounds_succ]
  -- region 4
  go_upto_region 4 with fail
  refine lin_begin (St w [⟨k1, (law_SpanKnown_c0.map some), 24⟩, ⟨k2, (law_SpanKnown_c1.map some), 24⟩]) rfl HS.out ?_
  refine lin_val (i := 0) (v := .int .i64 12) rfl rfl (by rfl) (by intro x hx; go_simp; (first | done | exact rfl)) ?_
  simp only [List.set_cons_succ, List.set_cons_zero]
  refine lin_val (i := 1) (v := .slice (some ⟨k1, 0, none⟩) 25 25) rfl rfl (by rfl) (by intro x hx; go_simp; (first | done | exact rfl)) ?_
  simp only [List.set_cons_succ, List.set_cons_zero]
  refine lin_val (i := 2) (v := .int .i64 25) rfl rfl (by rfl) (by intro x hx; go_simp; (first | done | exact rfl)) ?_
  simp only [List.set_cons_succ, List.set_cons_zero]
  refine lin_val (i := 3) (v := .bool true) rfl rfl (by rfl) (by intro x hx; go_simp; (first | done | exact rfl)) ?_
  simp only [List.set_cons_succ, List.set_cons_zero]
  refine lin_done ?_
  intro W40 hx
  replace HS := hid hx
  clear hx
  -- region 6
  go_upto_region 6 with fail
  refine up_begin (St w [⟨k1, (law_SpanKnown_c0.map some), 24⟩, ⟨k2, (law_SpanKnown_c1.map some), 24⟩]) 9 rfl (by kernel_rfl) (HS.out.drew) ?_
  refine take_val (i := 0) (v := .slice (some ⟨k1, 0, none⟩) 25 25) (st_ups _ _) rfl rfl (by kernel_rfl) (fun _ _ _ h => h) (by rfl) (by intro x hx; go_simp; (first | done | exact rfl)) ?_
  simp only [List.set_cons_succ, List.set_cons_zero]
  refine take_val (i := 1) (v := .int .i64 12) (st_ups _ _) rfl rfl (by kernel_rfl) (fun _ _ _ h => h) (by rfl) (by intro x hx; go_simp; (first | done | exact rfl)) ?_
  simp only [List.set_cons_succ, List.set_cons_zero]
  refine take_val (i := 2) (v := .pointer (some ⟨k1, 24, none⟩)) (st_ups _ _) rfl rfl (by kernel_rfl) (fun _ _ _ h => h) (by rfl) (by intro x hx; go_simp; (first | done | exact rfl)) ?_
  simp only [List.set_cons_succ, List.set_cons_zero]
  refine take_val (i := 3) (v := .agg #[.int .u64 (tn ((span_Mul (fromP 1#64 3#64) (P.mk (1#64 <<< (62#64 % 64#64).toNat) (1#64 <<< (62#64 % 64#64).toNat))).lo)), .int .u64 (tn ((span_Mul (fromP 1#64 3#64) (P.mk (1#64 <<< (62#64 % 64#64).toNat) (1#64 <<< (62#64 % 64#64).toNat))).hi))]) (st_ups _ _) rfl rfl (by kernel_rfl) (fun _ _ _ h => h) (by rfl) (by intro x hx; have f0 := hx.load 0 24 rfl rfl; have f1 := hx.load 0 25 rfl rfl; go_simp; (first | done | exact rfl)) ?_
  simp only [List.set_cons_succ, List.set_cons_zero]
  refine take_val (i := 4) (v := .slice (some ⟨k2, 0, none⟩) 25 25) (st_ups _ _) rfl rfl (by kernel_rfl) (fun _ _ _ h => h) (by rfl) (by intro x hx; go_simp; (first | done | exact rfl)) ?_
  simp only [List.set_cons_succ, List.set_cons_zero]
  refine take_val (i := 5) (v := .int .i64 12) (st_ups _ _) rfl rfl (by kernel_rfl) (fun _ _ _ h => h) (by rfl) (by intro x hx; go_simp; (first | done | exact rfl)) ?_
  simp only [List.set_cons_succ, List.set_cons_zero]
  refine take_val (i := 6) (v := .pointer (some ⟨k2, 24, none⟩)) (st_ups _ _) rfl rfl (by kernel_rfl) (fun _ _ _ h => h) (by rfl) (by intro x hx; go_simp; (first | done | exact rfl)) ?_
  simp only [List.set_cons_succ, List.set_cons_zero]
  refine take_val (i := 7) (v := .agg #[.int .u64 (tn ((fromP 4611686018427387904#64 13835058055282163712#64).lo)), .int .u64 (tn ((fromP 4611686018427387904#64 13835058055282163712#64).hi))]) (st_ups _ _) rfl rfl (by kernel_rfl) (fun _ _ _ h => h) (by rfl) (by intro x hx; have f0 := hx.load 1 24 rfl rfl; have f1 := hx.load 1 25 rfl rfl; go_simp; (first | done | exact rfl)) ?_
  simp only [List.set_cons_succ, List.set_cons_zero]
  refine take_val (i := 8) (v := .bool false) (st_ups _ _) rfl rfl (by kernel_rfl) (fun _ _ _ h => h) (by rfl) (by intro x hx; go_simp; (first | done | exact (eqPT (fun b => Result.ok (Next.value (Value.bool (!b))) x) ((span_Mul (fromP 1#64 3#64) (P.mk (1#64 <<< (62#64 % 64#64).toNat) (1#64 <<< (62#64 % 64#64).toNat))).lo) ((span_Mul (fromP 1#64 3#64) (P.mk (1#64 <<< (62#64 % 64#64).toNat) (1#64 <<< (62#64 % 64#64).toNat))).hi) ((fromP 4611686018427387904#64 13835058055282163712#64).lo) ((fromP 4611686018427387904#64 13835058055282163712#64).hi)).trans (congrArg (fun b => Result.ok (Next.value (Value.bool (!b))) x) ((show (eqP (span_Mul (fromP 1#64 3#64) (P.mk (1#64 <<< (62#64 % 64#64).toNat) (1#64 <<< (62#64 % 64#64).toNat))) (fromP 4611686018427387904#64 13835058055282163712#64)) = true by decide +kernel))))) ?_
  simp only [List.set_cons_succ, List.set_cons_zero]
  refine take_done (by kernel_rfl) ?_ _
  intro W41 hx
  replace HS := hid hx
  clear hx
  -- region 5
  go_upto_region 5 with fail
  refine lin_begin (St w [⟨k1, (law_SpanKnown_c0.map some), 24⟩, ⟨k2, (law_SpanKnown_c1.map some), 24⟩]) rfl HS.out ?_
  refine lin_val (i := 0) (v := .int .i64 12) rfl rfl (by rfl) (by intro x hx; go_simp; (first | done | exact rfl)) ?_
  simp only [List.set_cons_succ, List.set_cons_zero]
  refine lin_val (i := 1) (v := .int .i64 13) rfl rfl (by rfl) (by intro x hx; go_simp; (first | done | exact rfl)) ?_
  simp only [List.set_cons_succ, List.set_cons_zero]
  refine lin_val (i := 2) (v := .int .i64 13) rfl rfl (by rfl) (by intro x hx; go_simp; (first | done | exact rfl)) ?_
  simp only [List.set_cons_succ, List.set_cons_zero]
  refine lin_done ?_
  intro W42 hx
  replace HS := hid hx
  clear hx
  go_wp2
  rw [rounds_succ]
  -- region 4
  go_upto_region 4 with fail
  refine lin_begin (St w [⟨k1, (law_SpanKnown_c0.map some), 24⟩, ⟨k2, (law_SpanKnown_c1.map some), 24⟩]) rfl HS.out ?_
  refine lin_val (i := 0) (v := .int .i64 13) rfl rfl (by rfl) (by intro x hx; go_simp; (first | done | exact rfl)) ?_
  simp only [List.set_cons_succ, List.set_cons_zero]
  refine lin_val (i := 1) (v := .slice (some ⟨k1, 0, none⟩) 25 25) rfl rfl (by rfl) (by intro x hx; go_simp; (first | done | exact rfl)) ?_
  simp only [List.set_cons_succ, List.set_cons_zero]
  refine lin_val (i := 2) (v := .int .i64 25) rfl rfl (by rfl) (by intro x hx; go_simp; (first | done | exact rfl)) ?_
  simp only [List.set_cons_succ, List.set_cons_zero]
  refine lin_val (i := 3) (v := .bool true) rfl rfl (by rfl) (by intro x hx; go_simp; (first | done | exact rfl)) ?_
  simp only [List.set_cons_succ, List.set_cons_zero]
  refine lin_done ?_
  intro W43 hx
  replace HS := hid hx
  clear hx
  -- region 6
  go_upto_region 6 with fail
  refine up_begin (St w [⟨k1, (law_SpanKnown_c0.map some), 24⟩, ⟨k2, (law_SpanKnown_c1.map some), 24⟩]) 9 rfl (by kernel_rfl) (HS.out.drew) ?_
  refine take_val (i := 0) (v := .slice (some ⟨k1, 0, none⟩) 25 25) (st_ups _ _) rfl rfl (by kernel_rfl) (fun _ _ _ h => h) (by rfl) (by intro x hx; go_simp; (first | done | exact rfl)) ?_
  simp only [List.set_cons_succ, List.set_cons_zero]
  refine take_val (i := 1) (v := .int .i64 13) (st_ups _ _) rfl rfl (by kernel_rfl) (fun _ _ _ h => h) (by rfl) (by intro x hx; go_simp; (first | done | exact rfl)) ?_
  simp only [List.set_cons_succ, List.set_cons_zero]
  refine take_val (i := 2) (v := .pointer (some ⟨k1, 26, none⟩)) (st_ups _ _) rfl rfl (by kernel_rfl) (fun _ _ _ h => h) (by rfl) (by intro x hx; go_simp; (first | done | exact rfl)) ?_
  simp only [List.set_cons_succ, List.set_cons_zero]
  refine take_val (i := 3) (v := .agg #[.int .u64 (tn ((span_Mul (fromP 1#64 3#64) (P.mk (1#64 <<< (63#64 % 64#64).toNat) (1#64 <<< (63#64 % 64#64).toNat))).lo)), .int .u64 (tn ((span_Mul (fromP 1#64 3#64) (P.mk (1#64 <<< (63#64 % 64#64).toNat) (1#64 <<< (63#64 % 64#64).toNat))).hi))]) (st_ups _ _) rfl rfl (by kernel_rfl) (fun _ _ _ h => h) (by rfl) (by intro x hx; have f0 := hx.load 0 26 rfl rfl; have f1 := hx.load 0 27 rfl rfl; go_simp; (first | done | exact rfl)) ?_
  simp only [List.set_cons_succ, List.set_cons_zero]
  refine take_val (i := 4) (v := .slice (some ⟨k2, 0, none⟩) 25 25) (st_ups _ _) rfl rfl (by kernel_rfl) (fun _ _ _ h => h) (by rfl) (by intro x hx; go_simp; (first | done | exact rfl)) ?_
  simp only [List.set_cons_succ, List.set_cons_zero]
  refine take_val (i := 5) (v := .int .i64 13) (st_ups _ _) rfl rfl (by kernel_rfl) (fun _ _ _ h => h) (by rfl) (by intro x hx; go_simp; (first | done | exact rfl)) ?_
  simp only [List.set_cons_succ, List.set_cons_zero]
  refine take_val (i := 6) (v := .pointer (some ⟨k2, 26, none⟩)) (st_ups _ _) rfl rfl (by kernel_rfl) (fun _ _ _ h => h) (by rfl) (by intro x hx; go_simp; (first | done | exact rfl)) ?_
  simp only [List.set_cons_succ, List.set_cons_zero]
  refine take_val (i := 7) (v := .agg #[.int .u64 (tn (0#64)), .int .u64 (tn (18446744073709551615#64))]) (st_ups _ _) rfl rfl (by kernel_rfl) (fun _ _ _ h => h) (by rfl) (by intro x hx; have f0 := hx.load 1 26 rfl rfl; have f1 := hx.load 1 27 rfl rfl; go_simp; (first | done | exact rfl)) ?_
  simp only [List.set_cons_succ, List.set_cons_zero]
  refine take_val (i := 8) (v := .bool false) (st_ups _ _) rfl rfl (by kernel_rfl) (fun _ _ _ h => h) (by rfl) (by intro x hx; go_simp; (first | done | exact (eqPT (fun b => Result.ok (Next.value (Value.bool (!b))) x) ((span_Mul (fromP 1#64 3#64) (P.mk (1#64 <<< (63#64 % 64#64).toNat) (1#64 <<< (63#64 % 64#64).toNat))).lo) ((span_Mul (fromP 1#64 3#64) (P.mk (1#64 <<< (63#64 % 64#64).toNat) (1#64 <<< (63#64 % 64#64).toNat))).hi) 0#64 18446744073709551615#64).trans (congrArg (fun b => Result.ok (Next.value (Value.bool (!b))) x) ((show (eqP (span_Mul (fromP 1#64 3#64) (P.mk (1#64 <<< (63#64 % 64#64).toNat) (1#64 <<< (63#64 % 64#64).toNat))) (P.mk 0#64 18446744073709551615#64)) = true by decide +kernel))))) ?_
  simp only [List.set_cons_succ, List.set_cons_zero]
  refine take_done (by kernel_rfl) ?_ _
  intro W44 hx
  replace HS := hid hx
  clear hx
  -- region 5
  go_upto_region 5 with fail
  refine lin_begin (St w [⟨k1, (law_SpanKnown_c0.map some), 24⟩, ⟨k2, (law_SpanKnown_c1.map some), 24⟩]) rfl HS.out ?_
  refine lin_val (i := 0) (v := .int .i64 13) rfl rfl (by rfl) (by intro x hx; go_simp; (first | done | exact rfl)) ?_
  simp only [List.set_cons_succ, List.set_cons_zero]
  refine lin_val (i := 1) (v := .int .i64 14) rfl rfl (by rfl) (by intro x hx; go_simp; (first | done | exact rfl)) ?_
  simp only [List.set_cons_succ, List.set_cons_zero]
  refine lin_val (i := 2) (v := .int .i64 14) rfl rfl (by rfl) (by intro x hx; go_simp; (first | done | exact rfl)) ?_
  simp only [List.set_cons_succ, List.set_cons_zero]
  refine lin_done ?_
  intro W45 hx
  replace HS := hid hx
  clear hx
  go_wp2
  rw [rounds_succ]
  -- region 4
  go_upto_region 4 with fail
  refine lin_begin (St w [⟨k1, (law_SpanKnown_c0.map some), 24⟩, ⟨k2, (law_SpanKnown_c1.map some), 24⟩]) rfl HS.out ?_
  refine lin_val (i := 0) (v := .int .i64 14) rfl rfl (by rfl) (by intro x hx; go_simp; (first | done | exact rfl)) ?_
  simp only [List.set_cons_succ, List.set_cons_zero]
  refine lin_val (i := 1) (v := .slice (some ⟨k1, 0, none⟩) 25 25) rfl rfl (by rfl) (by intro x hx; go_simp; (first | done | exact rfl)) ?_
  simp only [List.set_cons_succ, List.set_cons_zero]
  refine lin_val (i := 2) (v := .int .i64 25) rfl rfl (by rfl) (by intro x hx; go_simp; (first | done | exact rfl)) ?_
  simp only [List.set_cons_succ, List.set_cons_zero]
  refine lin_val (i := 3) (v := .bool true) rfl rfl (by rfl) (by intro x hx; go_simp; (first | done | exact rfl)) ?_
  simp only [List.set_cons_succ, List.set_cons_zero]
  refine lin_done ?_
  intro W46 hx
  replace HS := hid hx
  clear hx
  -- region 6
  go_upto_region 6 with fail
  refine up_begin (St w [⟨k1, (law_SpanKnown_c0.map some), 24⟩, ⟨k2, (law_SpanKnown_c1.map some), 24⟩]) 9 rfl (by kernel_rfl) (HS.out.drew) ?_
  refine take_val (i := 0) (v := .slice (some ⟨k1, 0, none⟩) 25 25) (st_ups _ _) rfl rfl (by kernel_rfl) (fun _ _ _ h => h) (by rfl) (by intro x hx; go_simp; (first | done | exact rfl)) ?_
  simp only [List.set_cons_succ, List.set_cons_zero]
  refine take_val (i := 1) (v := .int .i64 14) (st_ups _ _) rfl rfl (by kernel_rfl) (fun _ _ _ h => h) (by rfl) (by intro x hx; go_simp; (first | done | exact rfl)) ?_
  simp only [List.set_cons_succ, List.set_cons_zero]
  refine take_val (i := 2) (v := .pointer (some ⟨k1, 28, none⟩)) (st_ups _ _) rfl rfl (by kernel_rfl) (fun _ _ _ h => h) (by rfl) (by intro x hx; go_simp; (first | done | exact rfl)) ?_
  simp only [List.set_cons_succ, List.set_cons_zero]
  refine take_val (i := 3) (v := .agg #[.int .u64 (tn ((span_Mul (fromP 1#64 3#64) (P.mk (1#64 <<< (64#64 % 64#64).toNat) (1#64 <<< (64#64 % 64#64).toNat))).lo)), .int .u64 (tn ((span_Mul (fromP 1#64 3#64) (P.mk (1#64 <<< (64#64 % 64#64).toNat) (1#64 <<< (64#64 % 64#64).toNat))).hi))]) (st_ups _ _) rfl rfl (by kernel_rfl) (fun _ _ _ h => h) (by rfl) (by intro x hx; have f0 := hx.load 0 28 rfl rfl; have f1 := hx.load 0 29 rfl rfl; go_simp; (first | done | exact rfl)) ?_
  simp only [List.set_cons_succ, List.set_cons_zero]
  refine take_val (i := 4) (v := .slice (some ⟨k2, 0, none⟩) 25 25) (st_ups _ _) rfl rfl (by kernel_rfl) (fun _ _ _ h => h) (by rfl) (by intro x hx; go_simp; (first | done | exact rfl)) ?_
  simp only [List.set_cons_succ, List.set_cons_zero]
  refine take_val (i := 5) (v := .int .i64 14) (st_ups _ _) rfl rfl (by kernel_rfl) (fun _ _ _ h => h) (by rfl) (by intro x hx; go_simp; (first | done | exact rfl)) ?_
  simp only [List.set_cons_succ, List.set_cons_zero]
  refine take_val (i := 6) (v := .pointer (some ⟨k2, 28, none⟩)) (st_ups _ _) rfl rfl (by kernel_rfl) (fun _ _ _ h => h) (by rfl) (by intro x hx; go_simp; (first | done | exact rfl)) ?_
  simp only [List.set_cons_succ, List.set_cons_zero]
  refine take_val (i := 7) (v := .agg #[.int .u64 (tn ((fromP 1#64 3#64).lo)), .int .u64 (tn ((fromP 1#64 3#64).hi))]) (st_ups _ _) rfl rfl (by kernel_rfl) (fun _ _ _ h => h) (by rfl) (by intro x hx; have f0 := hx.load 1 28 rfl rfl; have f1 := hx.load 1 29 rfl rfl; go_simp; (first | done | exact rfl)) ?_
  simp only [List.set_cons_succ, List.set_cons_zero]
  refine take_val (i := 8) (v := .bool false) (st_ups _ _) rfl rfl (by kernel_rfl) (fun _ _ _ h => h) (by rfl) (by intro x hx; go_simp; (first | done | exact (eqPT (fun b => Result.ok (Next.value (Value.bool (!b))) x) ((span_Mul (fromP 1#64 3#64) (P.mk (1#64 <<< (64#64 % 64#64).toNat) (1#64 <<< (64#64 % 64#64).toNat))).lo) ((span_Mul (fromP 1#64 3#64) (P.mk (1#64 <<< (64#64 % 64#64).toNat) (1#64 <<< (64#64 % 64#64).toNat))).hi) ((fromP 1#64 3#64).lo) ((fromP 1#64 3#64).hi)).trans (congrArg (fun b => Result.ok (Next.value (Value.bool (!b))) x) ((show (eqP (span_Mul (fromP 1#64 3#64) (P.mk (1#64 <<< (64#64 % 64#64).toNat) (1#64 <<< (64#64 % 64#64).toNat))) (fromP 1#64 3#64)) = true by decide +kernel))))) ?_
  simp only [List.set_cons_succ, List.set_cons_zero]
  refine take_done (by kernel_rfl) ?_ _
  intro W47 hx
  replace HS := hid hx
  clear hx
  -- region 5
  go_upto_region 5 with fail
  refine lin_begin (St w [⟨k1, (law_SpanKnown_c0.map some), 24⟩, ⟨k2, (law_SpanKnown_c1.map some), 24⟩]) rfl HS.out ?_
  refine lin_val (i := 0) (v := .int .i64 14) rfl rfl (by rfl) (by intro x hx; go_simp; (first | done | exact rfl)) ?_
  simp only [List.set_cons_succ, List.set_cons_zero]
  refine lin_val (i := 1) (v := .int .i64 15) rfl rfl (by rfl) (by intro x hx; go_simp; (first | done | exact rfl)) ?_
  simp only [List.set_cons_succ, List.set_cons_zero]
  refine lin_val (i := 2) (v := .int .i64 15) rfl rfl (by rfl) (by intro x hx; go_simp; (first | done | exact rfl)) ?_
  simp only [List.set_cons_succ, List.set_cons_zero]
  refine lin_done ?_
  intro W48 hx
  replace HS := hid hx
  clear hx
  go_wp2
  rw [rounds_succ]
  -- region 4
  go_upto_region 4 with fail
  refine lin_begin (St w [⟨k1, (law_SpanKnown_c0.map some), 24⟩, ⟨k2, (law_SpanKnown_c1.map some), 24⟩]) rfl HS.out ?_
  refine lin_val (i := 0) (v := .int .i64 15) rfl rfl (by rfl) (by intro x hx; go_simp; (first | done | exact rfl)) ?_
  simp only [List.set_cons_succ, List.set_cons_zero]
  refine lin_val (i := 1) (v := .slice (some ⟨k1, 0, none⟩) 25 25) rfl rfl (by rfl) (by intro x hx; go_simp; (first | done | exact rfl)) ?_
  simp only [List.set_cons_succ, List.set_cons_zero]
  refine lin_val (i := 2) (v := .int .i64 25) rfl rfl (by rfl) (by intro x hx; go_simp; (first | done | exact rfl)) ?_
  simp only [List.set_cons_succ, List.set_cons_zero]
  refine lin_val (i := 3) (v := .bool true) rfl rfl (by rfl) (by intro x hx; go_simp; (first | done | exact rfl)) ?_
  simp only [List.set_cons_succ, List.set_cons_zero]
  refine lin_done ?_
  intro W49 hx
  replace HS := hid hx
  clear hx
  -- region 6
  go_upto_region 6 with fail
  refine up_begin (St w [⟨k1, (law_SpanKnown_c0.map some), 24⟩, ⟨k2, (law_SpanKnown_c1.map some), 24⟩]) 9 rfl (by kernel_rfl) (HS.out.drew) ?_
  refine take_val (i := 0) (v := .slice (some ⟨k1, 0, none⟩) 25 25) (st_ups _ _) rfl rfl (by kernel_rfl) (fun _ _ _ h => h) (by rfl) (by intro x hx; go_simp; (first | done | exact rfl)) ?_
  simp only [List.set_cons_succ, List.set_cons_zero]
  refine take_val (i := 1) (v := .int .i64 15) (st_ups _ _) rfl rfl (by kernel_rfl) (fun _ _ _ h => h) (by rfl) (by intro x hx; go_simp; (first | done | exact rfl)) ?_
  simp only [List.set_cons_succ, List.set_cons_zero]
  refine take_val (i := 2) (v := .pointer (some ⟨k1, 30, none⟩)) (st_ups _ _) rfl rfl (by kernel_rfl) (fun _ _ _ h => h) (by rfl) (by intro x hx; go_simp; (first | done | exact rfl)) ?_
  simp only [List.set_cons_succ, List.set_cons_zero]
  refine take_val (i := 3) (v := .agg #[.int .u64 (tn ((fromP 8#64 17#64).lo >>> (3#64 % 64#64).toNat)), .int .u64 (tn ((fromP 8#64 17#64).hi >>> (3#64 % 64#64).toNat))]) (st_ups _ _) rfl rfl (by kernel_rfl) (fun _ _ _ h => h) (by rfl) (by intro x hx; have f0 := hx.load 0 30 rfl rfl; have f1 := hx.load 0 31 rfl rfl; go_simp; (first | done | exact rfl)) ?_
  simp only [List.set_cons_succ, List.set_cons_zero]
  refine take_val (i := 4) (v := .slice (some ⟨k2, 0, none⟩) 25 25) (st_ups _ _) rfl rfl (by kernel_rfl) (fun _ _ _ h => h) (by rfl) (by intro x hx; go_simp; (first | done | exact rfl)) ?_
  simp only [List.set_cons_succ, List.set_cons_zero]
  refine take_val (i := 5) (v := .int .i64 15) (st_ups _ _) rfl rfl (by kernel_rfl) (fun _ _ _ h => h) (by rfl) (by intro x hx; go_simp; (first | done | exact rfl)) ?_
  simp only [List.set_cons_succ, List.set_cons_zero]
  refine take_val (i := 6) (v := .pointer (some ⟨k2, 30, none⟩)) (st_ups _ _) rfl rfl (by kernel_rfl) (fun _ _ _ h => h) (by rfl) (by intro x hx; go_simp; (first | done | exact rfl)) ?_
  simp only [List.set_cons_succ, List.set_cons_zero]
  refine take_val (i := 7) (v := .agg #[.int .u64 (tn ((fromP 1#64 2#64).lo)), .int .u64 (tn ((fromP 1#64 2#64).hi))]) (st_ups _ _) rfl rfl (by kernel_rfl) (fun _ _ _ h => h) (by rfl) (by intro x hx; have f0 := hx.load 1 30 rfl rfl; have f1 := hx.load 1 31 rfl rfl; go_simp; (first | done | exact rfl)) ?_
  simp only [List.set_cons_succ, List.set_cons_zero]
  refine take_val (i := 8) (v := .bool false) (st_ups _ _) rfl rfl (by kernel_rfl) (fun _ _ _ h => h) (by rfl) (by intro x hx; go_simp; (first | done | exact (eqPT (fun b => Result.ok (Next.value (Value.bool (!b))) x) ((fromP 8#64 17#64).lo >>> (3#64 % 64#64).toNat) ((fromP 8#64 17#64).hi >>> (3#64 % 64#64).toNat) ((fromP 1#64 2#64).lo) ((fromP 1#64 2#64).hi)).trans (congrArg (fun b => Result.ok (Next.value (Value.bool (!b))) x) ((show (eqP (P.mk ((fromP 8#64 17#64).lo >>> (3#64 % 64#64).toNat) ((fromP 8#64 17#64).hi >>> (3#64 % 64#64).toNat)) (fromP 1#64 2#64)) = true by decide +kernel))))) ?_
  simp only [List.set_cons_succ, List.set_cons_zero]
  refine take_done (by kernel_rfl) ?_ _
  intro W50 hx
  replace HS := hid hx
  clear hx
  -- region 5
  go_upto_region 5 with fail
  refine lin_begin (St w [⟨k1, (law_SpanKnown_c0.map some), 24⟩, ⟨k2, (law_SpanKnown_c1.map some), 24⟩]) rfl HS.out ?_
  refine lin_val (i := 0) (v := .int .i64 15) rfl rfl (by rfl) (by intro x hx; go_simp; (first | done | exact rfl)) ?_
  simp only [List.set_cons_succ, List.set_cons_zero]
  refine lin_val (i := 1) (v := .int .i64 16) rfl rfl (by rfl) (by intro x hx; go_simp; (first | done | exact rfl)) ?_
  simp only [List.set_cons_succ, List.set_cons_zero]
  refine lin_val (i := 2) (v := .int .i64 16) rfl rfl (by rfl) (by intro x hx; go_simp; (first | done | exact rfl)) ?_
  simp only [List.set_cons_succ, List.set_cons_zero]
  refine lin_done ?_
  intro W51 hx
  replace HS := hid hx
  clear hx
  go_wp2
  rw [rounds_succ]
  -- region 4
  go_upto_region 4 with fail
  refine lin_begin (St w [⟨k1, (law_SpanKnown_c0.map some), 24⟩, ⟨k2, (law_SpanKnown_c1.map some), 24⟩]) rfl HS.out ?_
  refine lin_val (i := 0) (v := .int .i64 16) rfl rfl (by rfl) (by intro x hx; go_simp; (first | done | exact rfl)) ?_
  simp only [List.set_cons_succ, List.set_cons_zero]
  refine lin_val (i := 1) (v := .slice (some ⟨k1, 0, none⟩) 25 25) rfl rfl (by rfl) (by intro x hx; go_simp; (first | done | exact rfl)) ?_
  simp only [List.set_cons_succ, List.set_cons_zero]
  refine lin_val (i := 2) (v := .int .i64 25) rfl rfl (by rfl) (by intro x hx; go_simp; (first | done | exact rfl)) ?_
  simp only [List.set_cons_succ, List.set_cons_zero]
  refine lin_val (i := 3) (v := .bool true) rfl rfl (by rfl) (by intro x hx; go_simp; (first | done | exact rfl)) ?_
  simp only [List.set_cons_succ, List.set_cons_zero]
  refine lin_done ?_
  intro W52 hx
  replace HS := hid hx
  clear hx
  -- region 6
  go_upto_region 6 with fail
  refine up_begin (St w [⟨k1, (law_SpanKnown_c0.map some), 24⟩, ⟨k2, (law_SpanKnown_c1.map some), 24⟩]) 9 rfl (by kernel_rfl) (HS.out.drew) ?_
  refine take_val (i := 0) (v := .slice (some ⟨k1, 0, none⟩) 25 25) (st_ups _ _) rfl rfl (by kernel_rfl) (fun _ _ _ h => h) (by rfl) (by intro x hx; go_simp; (first | done | exact rfl)) ?_
  simp only [List.set_cons_succ, List.set_cons_zero]
  refine take_val (i := 1) (v := .int .i64 16) (st_ups _ _) rfl rfl (by kernel_rfl) (fun _ _ _ h => h) (by rfl) (by intro x hx; go_simp; (first | done | exact rfl)) ?_
  simp only [List.set_cons_succ, List.set_cons_zero]
  refine take_val (i := 2) (v := .pointer (some ⟨k1, 32, none⟩)) (st_ups _ _) rfl rfl (by kernel_rfl) (fun _ _ _ h => h) (by rfl) (by intro x hx; go_simp; (first | done | exact rfl)) ?_
  simp only [List.set_cons_succ, List.set_cons_zero]
  refine take_val (i := 3) (v := .agg #[.int .u64 (tn ((span_Div (fromP 7#64 9#64) (P.mk 0#64 0#64)).lo)), .int .u64 (tn ((span_Div (fromP 7#64 9#64) (P.mk 0#64 0#64)).hi))]) (st_ups _ _) rfl rfl (by kernel_rfl) (fun _ _ _ h => h) (by rfl) (by intro x hx; have f0 := hx.load 0 32 rfl rfl; have f1 := hx.load 0 33 rfl rfl; go_simp; (first | done | exact rfl)) ?_
  simp only [List.set_cons_succ, List.set_cons_zero]
  refine take_val (i := 4) (v := .slice (some ⟨k2, 0, none⟩) 25 25) (st_ups _ _) rfl rfl (by kernel_rfl) (fun _ _ _ h => h) (by rfl) (by intro x hx; go_simp; (first | done | exact rfl)) ?_
  simp only [List.set_cons_succ, List.set_cons_zero]
  refine take_val (i := 5) (v := .int .i64 16) (st_ups _ _) rfl rfl (by kernel_rfl) (fun _ _ _ h => h) (by rfl) (by intro x hx; go_simp; (first | done | exact rfl)) ?_
  simp only [List.set_cons_succ, List.set_cons_zero]
  refine take_val (i := 6) (v := .pointer (some ⟨k2, 32, none⟩)) (st_ups _ _) rfl rfl (by kernel_rfl) (fun _ _ _ h => h) (by rfl) (by intro x hx; go_simp; (first | done | exact rfl)) ?_
  simp only [List.set_cons_succ, List.set_cons_zero]
  refine take_val (i := 7) (v := .agg #[.int .u64 (tn (0#64)), .int .u64 (tn (0#64))]) (st_ups _ _) rfl rfl (by kernel_rfl) (fun _ _ _ h => h) (by rfl) (by intro x hx; have f0 := hx.load 1 32 rfl rfl; have f1 := hx.load 1 33 rfl rfl; go_simp; (first | done | exact rfl)) ?_
  simp only [List.set_cons_succ, List.set_cons_zero]
  refine take_val (i := 8) (v := .bool false) (st_ups _ _) rfl rfl (by kernel_rfl) (fun _ _ _ h => h) (by rfl) (by intro x hx; go_simp; (first | done | exact (eqPT (fun b => Result.ok (Next.value (Value.bool (!b))) x) ((span_Div (fromP 7#64 9#64) (P.mk 0#64 0#64)).lo) ((span_Div (fromP 7#64 9#64) (P.mk 0#64 0#64)).hi) 0#64 0#64).trans (congrArg (fun b => Result.ok (Next.value (Value.bool (!b))) x) ((show (eqP (span_Div (fromP 7#64 9#64) (P.mk 0#64 0#64)) (P.mk 0#64 0#64)) = true by decide +kernel))))) ?_
  simp only [List.set_cons_succ, List.set_cons_zero]
  refine take_done (by kernel_rfl) ?_ _
  intro W53 hx
  replace HS := hid hx
  clear hx
  -- region 5
  go_upto_region 5 with fail
  refine lin_begin (St w [⟨k1, (law_SpanKnown_c0.map some), 24⟩, ⟨k2, (law_SpanKnown_c1.map some), 24⟩]) rfl HS.out ?_
  refine lin_val (i := 0) (v := .int .i64 16) rfl rfl (by rfl) (by intro x hx; go_simp; (first | done | exact rfl)) ?_
  simp only [List.set_cons_succ, List.set_cons_zero]
  refine lin_val (i := 1) (v := .int .i64 17) rfl rfl (by rfl) (by intro x hx; go_simp; (first | done | exact rfl)) ?_
  simp only [List.set_cons_succ, List.set_cons_zero]
  refine lin_val (i := 2) (v := .int .i64 17) rfl rfl (by rfl) (by intro x hx; go_simp; (first | done | exact rfl)) ?_
  simp only [List.set_cons_succ, List.set_cons_zero]
  refine lin_done ?_
  intro W54 hx
  replace HS := hid hx
  clear hx
  go_wp2
  rw [rounds_succ]
  -- region 4
  go_upto_region 4 with fail
  refine lin_begin (St w [⟨k1, (law_SpanKnown_c0.map some), 24⟩, ⟨k2, (law_SpanKnown_c1.map some), 24⟩]) rfl HS.out ?_
  refine lin_val (i := 0) (v := .int .i64 17) rfl rfl (by rfl) (by intro x hx; go_simp; (first | done | exact rfl)) ?_
  simp only [List.set_cons_succ, List.set_cons_zero]
  refine lin_val (i := 1) (v := .slice (some ⟨k1, 0, none⟩) 25 25) rfl rfl (by rfl) (by intro x hx; go_simp; (first | done | exact rfl)) ?_
  simp only [List.set_cons_succ, List.set_cons_zero]
  refine lin_val (i := 2) (v := .int .i64 25) rfl rfl (by rfl) (by intro x hx; go_simp; (first | done | exact rfl)) ?_
  simp only [List.set_cons_succ, List.set_cons_zero]
  refine lin_val (i := 3) (v := .bool true) rfl rfl (by rfl) (by intro x hx; go_simp; (first | done | exact rfl)) ?_
  simp only [List.set_cons_succ, List.set_cons_zero]
  refine lin_done ?_
  intro W55 hx
  replace HS := hid hx
  clear hx
  -- region 6
  go_upto_region 6 with fail
  refine up_begin (St w [⟨k1, (law_SpanKnown_c0.map some), 24⟩, ⟨k2, (law_SpanKnown_c1.map some), 24⟩]) 9 rfl (by kernel_rfl) (HS.out.drew) ?_
  refine take_val (i := 0) (v := .slice (some ⟨k1, 0, none⟩) 25 25) (st_ups _ _) rfl rfl (by kernel_rfl) (fun _ _ _ h => h) (by rfl) (by intro x hx; go_simp; (first | done | exact rfl)) ?_
  simp only [List.set_cons_succ, List.set_cons_zero]
  refine take_val (i := 1) (v := .int .i64 17) (st_ups _ _) rfl rfl (by kernel_rfl) (fun _ _ _ h => h) (by rfl) (by intro x hx; go_simp; (first | done | exact rfl)) ?_
  simp only [List.set_cons_succ, List.set_cons_zero]
  refine take_val (i := 2) (v := .pointer (some ⟨k1, 34, none⟩)) (st_ups _ _) rfl rfl (by kernel_rfl) (fun _ _ _ h => h) (by rfl) (by intro x hx; go_simp; (first | done | exact rfl)) ?_
  simp only [List.set_cons_succ, List.set_cons_zero]
  refine take_val (i := 3) (v := .agg #[.int .u64 (tn ((span_Mod (fromP 7#64 9#64) (P.mk 0#64 0#64)).lo)), .int .u64 (tn ((span_Mod (fromP 7#64 9#64) (P.mk 0#64 0#64)).hi))]) (st_ups _ _) rfl rfl (by kernel_rfl) (fun _ _ _ h => h) (by rfl) (by intro x hx; have f0 := hx.load 0 34 rfl rfl; have f1 := hx.load 0 35 rfl rfl; go_simp; (first | done | exact rfl)) ?_
  simp only [List.set_cons_succ, List.set_cons_zero]
  refine take_val (i := 4) (v := .slice (some ⟨k2, 0, none⟩) 25 25) (st_ups _ _) rfl rfl (by kernel_rfl) (fun _ _ _ h => h) (by rfl) (by intro x hx; go_simp; (first | done | exact rfl)) ?_
  simp only [List.set_cons_succ, List.set_cons_zero]
  refine take_val (i := 5) (v := .int .i64 17) (st_ups _ _) rfl rfl (by kernel_rfl) (fun _ _ _ h => h) (by rfl) (by intro x hx; go_simp; (first | done | exact rfl)) ?_
  simp only [List.set_cons_succ, List.set_cons_zero]
  refine take_val (i := 6) (v := .pointer (some ⟨k2, 34, none⟩)) (st_ups _ _) rfl rfl (by kernel_rfl) (fun _ _ _ h => h) (by rfl) (by intro x hx; go_simp; (first | done | exact rfl)) ?_
  simp only [List.set_cons_succ, List.set_cons_zero]
  refine take_val (i := 7) (v := .agg #[.int .u64 (tn ((fromP 7#64 9#64).lo)), .int .u64 (tn ((fromP 7#64 9#64).hi))]) (st_ups _ _) rfl rfl (by kernel_rfl) (fun _ _ _ h => h) (by rfl) (by intro x hx; have f0 := hx.load 1 34 rfl rfl; have f1 := hx.load 1 35 rfl rfl; go_simp; (first | done | exact rfl)) ?_
  simp only [List.set_cons_succ, List.set_cons_zero]
  refine take_val (i := 8) (v := .bool false) (st_ups _ _) rfl rfl (by kernel_rfl) (fun _ _ _ h => h) (by rfl) (by intro x hx; go_simp; (first | done | exact (eqPT (fun b => Result.ok (Next.value (Value.bool (!b))) x) ((span_Mod (fromP 7#64 9#64) (P.mk 0#64 0#64)).lo) ((span_Mod (fromP 7#64 9#64) (P.mk 0#64 0#64)).hi) ((fromP 7#64 9#64).lo) ((fromP 7#64 9#64).hi)).trans (congrArg (fun b => Result.ok (Next.value (Value.bool (!b))) x) ((show (eqP (span_Mod (fromP 7#64 9#64) (P.mk 0#64 0#64)) (fromP 7#64 9#64)) = true by decide +kernel))))) ?_
  simp only [List.set_cons_succ, List.set_cons_zero]
  refine take_done (by kernel_rfl) ?_ _
  intro W56 hx
  replace HS := hid hx
  clear hx
  -- region 5
  go_upto_region 5 with fail
  refine lin_begin (St w [⟨k1, (law_SpanKnown_c0.map some), 24⟩, ⟨k2, (law_SpanKnown_c1.map some), 24⟩]) rfl HS.out ?_
  refine lin_val (i := 0) (v := .int .i64 17) rfl rfl (by rfl) (by intro x hx; go_simp; (first | done | exact rfl)) ?_
  simp only [List.set_cons_succ, List.set_cons_zero]
  refine lin_val (i := 1) (v := .int .i64 18) rfl rfl (by rfl) (by intro x hx; go_simp; (first | done | exact rfl)) ?_
  simp only [List.set_cons_succ, List.set_cons_zero]
  refine lin_val (i := 2) (v := .int .i64 18) rfl rfl (by rfl) (by intro x hx; go_simp; (first | done | exact rfl)) ?_
  simp only [List.set_cons_succ, List.set_cons_zero]
  refine lin_done ?_
  intro W57 hx
  replace HS := hid hx
  clear hx
  go_wp2
  rw [rounds_succ]
  -- region 4
  go_upto_region 4 with fail
  refine lin_begin (St w [⟨k1, (law_SpanKnown_c0.map some), 24⟩, ⟨k2, (law_SpanKnown_c1.map some), 24⟩]) rfl HS.out ?_
  refine lin_val (i := 0) (v := .int .i64 18) rfl rfl (by rfl) (by intro x hx; go_simp; (first | done | exact rfl)) ?_
  simp only [List.set_cons_succ, List.set_cons_zero]
  refine lin_val (i := 1) (v := .slice (some ⟨k1, 0, none⟩) 25 25) rfl rfl (by rfl) (by intro x hx; go_simp; (first | done | exact rfl)) ?_
  simp only [List.set_cons_succ, List.set_cons_zero]
  refine lin_val (i := 2) (v := .int .i64 25) rfl rfl (by rfl) (by intro x hx; go_simp; (first | done | exact rfl)) ?_
  simp only [List.set_cons_succ, List.set_cons_zero]
  refine lin_val (i := 3) (v := .bool true) rfl rfl (by rfl) (by intro x hx; go_simp; (first | done | exact rfl)) ?_
  simp only [List.set_cons_succ, List.set_cons_zero]
  refine lin_done ?_
  intro W58 hx
  replace HS := hid hx
  clear hx
  -- region 6
  go_upto_region 6 with fail
  refine up_begin (St w [⟨k1, (law_SpanKnown_c0.map some), 24⟩, ⟨k2, (law_SpanKnown_c1.map some), 24⟩]) 9 rfl (by kernel_rfl) (HS.out.drew) ?_
  refine take_val (i := 0) (v := .slice (some ⟨k1, 0, none⟩) 25 25) (st_ups _ _) rfl rfl (by kernel_rfl) (fun _ _ _ h => h) (by rfl) (by intro x hx; go_simp; (first | done | exact rfl)) ?_
  simp only [List.set_cons_succ, List.set_cons_zero]
  refine take_val (i := 1) (v := .int .i64 18) (st_ups _ _) rfl rfl (by kernel_rfl) (fun _ _ _ h => h) (by rfl) (by intro x hx; go_simp; (first | done | exact rfl)) ?_
  simp only [List.set_cons_succ, List.set_cons_zero]
  refine take_val (i := 2) (v := .pointer (some ⟨k1, 36, none⟩)) (st_ups _ _) rfl rfl (by kernel_rfl) (fun _ _ _ h => h) (by rfl) (by intro x hx; go_simp; (first | done | exact rfl)) ?_
  simp only [List.set_cons_succ, List.set_cons_zero]
  refine take_val (i := 3) (v := .agg #[.int .u64 (tn ((span_Mod (fromP 7#64 9#64) (fromP 10#64 12#64)).lo)), .int .u64 (tn ((span_Mod (fromP 7#64 9#64) (fromP 10#64 12#64)).hi))]) (st_ups _ _) rfl rfl (by kernel_rfl) (fun _ _ _ h => h) (by rfl) (by intro x hx; have f0 := hx.load 0 36 rfl rfl; have f1 := hx.load 0 37 rfl rfl; go_simp; (first | done | exact rfl)) ?_
  simp only [List.set_cons_succ, List.set_cons_zero]
  refine take_val (i := 4) (v := .slice (some ⟨k2, 0, none⟩) 25 25) (st_ups _ _) rfl rfl (by kernel_rfl) (fun _ _ _ h => h) (by rfl) (by intro x hx; go_simp; (first | done | exact rfl)) ?_
  simp only [List.set_cons_succ, List.set_cons_zero]
  refine take_val (i := 5) (v := .int .i64 18) (st_ups _ _) rfl rfl (by kernel_rfl) (fun _ _ _ h => h) (by rfl) (by intro x hx; go_simp; (first | done | exact rfl)) ?_
  simp only [List.set_cons_succ, List.set_cons_zero]
  refine take_val (i := 6) (v := .pointer (some ⟨k2, 36, none⟩)) (st_ups _ _) rfl rfl (by kernel_rfl) (fun _ _ _ h => h) (by rfl) (by intro x hx; go_simp; (first | done | exact rfl)) ?_
  simp only [List.set_cons_succ, List.set_cons_zero]
  refine take_val (i := 7) (v := .agg #[.int .u64 (tn ((fromP 7#64 9#64).lo)), .int .u64 (tn ((fromP 7#64 9#64).hi))]) (st_ups _ _) rfl rfl (by kernel_rfl) (fun _ _ _ h => h) (by rfl) (by intro x hx; have f0 := hx.load 1 36 rfl rfl; have f1 := hx.load 1 37 rfl rfl; go_simp; (first | done | exact rfl)) ?_
  simp only [List.set_cons_succ, List.set_cons_zero]
  refine take_val (i := 8) (v := .bool false) (st_ups _ _) rfl rfl (by kernel_rfl) (fun _ _ _ h => h) (by rfl) (by intro x hx; go_simp; (first | done | exact (eqPT (fun b => Result.ok (Next.value (Value.bool (!b))) x) ((span_Mod (fromP 7#64 9#64) (fromP 10#64 12#64)).lo) ((span_Mod (fromP 7#64 9#64) (fromP 10#64 12#64)).hi) ((fromP 7#64 9#64).lo) ((fromP 7#64 9#64).hi)).trans (congrArg (fun b => Result.ok (Next.value (Value.bool (!b))) x) ((show (eqP (span_Mod (fromP 7#64 9#64) (fromP 10#64 12#64)) (fromP 7#64 9#64)) = true by decide +kernel))))) ?_
  simp only [List.set_cons_succ, List.set_cons_zero]
  refine take_done (by kernel_rfl) ?_ _
  intro W59 hx
  replace HS := hid hx
  clear hx
  -- region 5
  go_upto_region 5 with fail
  refine lin_begin (St w [⟨k1, (law_SpanKnown_c0.map some), 24⟩, ⟨k2, (law_SpanKnown_c1.map some), 24⟩]) rfl HS.out ?_
  refine lin_val (i := 0) (v := .int .i64 18) rfl rfl (by rfl) (by intro x hx; go_simp; (first | done | exact rfl)) ?_
  simp only [List.set_cons_succ, List.set_cons_zero]
  refine lin_val (i := 1) (v := .int .i64 19) rfl rfl (by rfl) (by intro x hx; go_simp; (first | done | exact rfl)) ?_
  simp only [List.set_cons_succ, List.set_cons_zero]
  refine lin_val (i := 2) (v := .int .i64 19) rfl rfl (by rfl) (by intro x hx; go_simp; (first | done | exact rfl)) ?_
  simp only [List.set_cons_succ, List.set_cons_zero]
  refine lin_done ?_
  intro W60 hx
  replace HS := hid hx
  clear hx
  go_wp2
  rw [rounds_succ]
  -- region 4
  go_upto_region 4 with fail
  refine lin_begin (St w [⟨k1, (law_SpanKnown_c0.map some), 24⟩, ⟨k2, (law_SpanKnown_c1.map some), 24⟩]) rfl HS.out ?_
  refine lin_val (i := 0) (v := .int .i64 19) rfl rfl (by rfl) (by intro x hx; go_simp; (first | done | exact rfl)) ?_
  simp only [List.set_cons_succ, List.set_cons_zero]
  refine lin_val (i := 1) (v := .slice (some ⟨k1, 0, none⟩) 25 25) rfl rfl (by rfl) (by intro x hx; go_simp; (first | done | exact rfl)) ?_
  simp only [List.set_cons_succ, List.set_cons_zero]
  refine lin_val (i := 2) (v := .int .i64 25) rfl rfl (by rfl) (by intro x hx; go_simp; (first | done | exact rfl)) ?_
  simp only [List.set_cons_succ, List.set_cons_zero]
  refine lin_val (i := 3) (v := .bool true) rfl rfl (by rfl) (by intro x hx; go_simp; (first | done | exact rfl)) ?_
  simp only [List.set_cons_succ, List.set_cons_zero]
  refine lin_done ?_
  intro W61 hx
  replace HS := hid hx
  clear hx
  -- region 6
  go_upto_region 6 with fail
  refine up_begin (St w [⟨k1, (law_SpanKnown_c0.map some), 24⟩, ⟨k2, (law_SpanKnown_c1.map some), 24⟩]) 9 rfl (by kernel_rfl) (HS.out.drew) ?_
  refine take_val (i := 0) (v := .slice (some ⟨k1, 0, none⟩) 25 25) (st_ups _ _) rfl rfl (by kernel_rfl) (fun _ _ _ h => h) (by rfl) (by intro x hx; go_simp; (first | done | exact rfl)) ?_
  simp only [List.set_cons_succ, List.set_cons_zero]
  refine take_val (i := 1) (v := .int .i64 19) (st_ups _ _) rfl rfl (by kernel_rfl) (fun _ _ _ h => h) (by rfl) (by intro x hx; go_simp; (first | done | exact rfl)) ?_
  simp only [List.set_cons_succ, List.set_cons_zero]
  refine take_val (i := 2) (v := .pointer (some ⟨k1, 38, none⟩)) (st_ups _ _) rfl rfl (by kernel_rfl) (fun _ _ _ h => h) (by rfl) (by intro x hx; go_simp; (first | done | exact rfl)) ?_
  simp only [List.set_cons_succ, List.set_cons_zero]
  refine take_val (i := 3) (v := .agg #[.int .u64 (tn ((span_Mod (fromP 7#64 9#64) (fromP 0#64 1#64)).lo)), .int .u64 (tn ((span_Mod (fromP 7#64 9#64) (fromP 0#64 1#64)).hi))]) (st_ups _ _) rfl rfl (by kernel_rfl) (fun _ _ _ h => h) (by rfl) (by intro x hx; have f0 := hx.load 0 38 rfl rfl; have f1 := hx.load 0 39 rfl rfl; go_simp; (first | done | exact rfl)) ?_
  simp only [List.set_cons_succ, List.set_cons_zero]
  refine take_val (i := 4) (v := .slice (some ⟨k2, 0, none⟩) 25 25) (st_ups _ _) rfl rfl (by kernel_rfl) (fun _ _ _ h => h) (by rfl) (by intro x hx; go_simp; (first | done | exact rfl)) ?_
  simp only [List.set_cons_succ, List.set_cons_zero]
  refine take_val (i := 5) (v := .int .i64 19) (st_ups _ _) rfl rfl (by kernel_rfl) (fun _ _ _ h => h) (by rfl) (by intro x hx; go_simp; (first | done | exact rfl)) ?_
  simp only [List.set_cons_succ, List.set_cons_zero]
  refine take_val (i := 6) (v := .pointer (some ⟨k2, 38, none⟩)) (st_ups _ _) rfl rfl (by kernel_rfl) (fun _ _ _ h => h) (by rfl) (by intro x hx; go_simp; (first | done | exact rfl)) ?_
  simp only [List.set_cons_succ, List.set_cons_zero]
  refine take_val (i := 7) (v := .agg #[.int .u64 (tn ((fromP 0#64 9#64).lo)), .int .u64 (tn ((fromP 0#64 9#64).hi))]) (st_ups _ _) rfl rfl (by kernel_rfl) (fun _ _ _ h => h) (by rfl) (by intro x hx; have f0 := hx.load 1 38 rfl rfl; have f1 := hx.load 1 39 rfl rfl; go_simp; (first | done | exact rfl)) ?_
  simp only [List.set_cons_succ, List.set_cons_zero]
  refine take_val (i := 8) (v := .bool false) (st_ups _ _) rfl rfl (by kernel_rfl) (fun _ _ _ h => h) (by rfl) (by intro x hx; go_simp; (first | done | exact (eqPT (fun b => Result.ok (Next.value (Value.bool (!b))) x) ((span_Mod (fromP 7#64 9#64) (fromP 0#64 1#64)).lo) ((span_Mod (fromP 7#64 9#64) (fromP 0#64 1#64)).hi) ((fromP 0#64 9#64).lo) ((fromP 0#64 9#64).hi)).trans (congrArg (fun b => Result.ok (Next.value (Value.bool (!b))) x) ((show (eqP (span_Mod (fromP 7#64 9#64) (fromP 0#64 1#64)) (fromP 0#64 9#64)) = true by decide +kernel))))) ?_
  simp only [List.set_cons_succ, List.set_cons_zero]
  refine take_done (by kernel_rfl) ?_ _
  intro W62 hx
  replace HS := hid hx
  clear hx
  -- region 5
  go_upto_region 5 with fail
  refine lin_begin (St w [⟨k1, (law_SpanKnown_c0.map some), 24⟩, ⟨k2, (law_SpanKnown_c1.map some), 24⟩]) rfl HS.out ?_
  refine lin_val (i := 0) (v := .int .i64 19) rfl rfl (by rfl) (by intro x hx; go_simp; (first | done | exact rfl)) ?_
  simp only [List.set_cons_succ, List.set_cons_zero]
  refine lin_val (i := 1) (v := .int .i64 20) rfl rfl (by rfl) (by intro x hx; go_simp; (first | done | exact rfl)) ?_
  simp only [List.set_cons_succ, List.set_cons_zero]
  refine lin_val (i := 2) (v := .int .i64 20) rfl rfl (by rfl) (by intro x hx; go_simp; (first | done | exact rfl)) ?_
  simp only [List.set_cons_succ, List.set_cons_zero]
  refine lin_done ?_
  intro W63 hx
  replace HS := hid hx
  clear hx
  go_wp2
  rw [rounds_succ]
  -- region 4
  go_upto_region 4 with fail
  refine lin_begin (St w [⟨k1, (law_SpanKnown_c0.map some), 24⟩, ⟨k2, (law_SpanKnown_c1.map some), 24⟩]) rfl HS.out ?_
  refine lin_val (i := 0) (v := .int .i64 20) rfl rfl (by rfl) (by intro x hx; go_simp; (first | done | exact rfl)) ?_
  simp only [List.set_cons_succ, List.set_cons_zero]
  refine lin_val (i := 1) (v := .slice (some ⟨k1, 0, none⟩) 25 25) rfl rfl (by rfl) (by intro x hx; go_simp; (first | done | exact rfl)) ?_
  simp only [List.set_cons_succ, List.set_cons_zero]
  refine lin_val (i := 2) (v := .int .i64 25) rfl rfl (by rfl) (by intro x hx; go_simp; (first | done | exact rfl)) ?_
  simp only [List.set_cons_succ, List.set_cons_zero]
  refine lin_val (i := 3) (v := .bool true) rfl rfl (by rfl) (by intro x hx; go_simp; (first | done | exact rfl)) ?_
  simp only [List.set_cons_succ, List.set_cons_zero]
  refine lin_done ?_
  intro W64 hx
  replace HS := hid hx
  clear hx
  -- region 6
  go_upto_region 6 with fail
  refine up_begin (St w [⟨k1, (law_SpanKnown_c0.map some), 24⟩, ⟨k2, (law_SpanKnown_c1.map some), 24⟩]) 9 rfl (by kernel_rfl) (HS.out.drew) ?_
  refine take_val (i := 0) (v := .slice (some ⟨k1, 0, none⟩) 25 25) (st_ups _ _) rfl rfl (by kernel_rfl) (fun _ _ _ h => h) (by rfl) (by intro x hx; go_simp; (first | done | exact rfl)) ?_
  simp only [List.set_cons_succ, List.set_cons_zero]
  refine take_val (i := 1) (v := .int .i64 20) (st_ups _ _) rfl rfl (by kernel_rfl) (fun _ _ _ h => h) (by rfl) (by intro x hx; go_simp; (first | done | exact rfl)) ?_
  simp only [List.set_cons_succ, List.set_cons_zero]
  refine take_val (i := 2) (v := .pointer (some ⟨k1, 40, none⟩)) (st_ups _ _) rfl rfl (by kernel_rfl) (fun _ _ _ h => h) (by rfl) (by intro x hx; go_simp; (first | done | exact rfl)) ?_
  simp only [List.set_cons_succ, List.set_cons_zero]
  refine take_val (i := 3) (v := .agg #[.int .u64 (tn ((span_ToSpan (P.mk 18446744073709551614#64 18446744073709551615#64)).lo)), .int .u64 (tn ((span_ToSpan (P.mk 18446744073709551614#64 18446744073709551615#64)).hi))]) (st_ups _ _) rfl rfl (by kernel_rfl) (fun _ _ _ h => h) (by rfl) (by intro x hx; have f0 := hx.load 0 40 rfl rfl; have f1 := hx.load 0 41 rfl rfl; go_simp; (first | done | exact rfl)) ?_
  simp only [List.set_cons_succ, List.set_cons_zero]
  refine take_val (i := 4) (v := .slice (some ⟨k2, 0, none⟩) 25 25) (st_ups _ _) rfl rfl (by kernel_rfl) (fun _ _ _ h => h) (by rfl) (by intro x hx; go_simp; (first | done | exact rfl)) ?_
  simp only [List.set_cons_succ, List.set_cons_zero]
  refine take_val (i := 5) (v := .int .i64 20) (st_ups _ _) rfl rfl (by kernel_rfl) (fun _ _ _ h => h) (by rfl) (by intro x hx; go_simp; (first | done | exact rfl)) ?_
  simp only [List.set_cons_succ, List.set_cons_zero]
  refine take_val (i := 6) (v := .pointer (some ⟨k2, 40, none⟩)) (st_ups _ _) rfl rfl (by kernel_rfl) (fun _ _ _ h => h) (by rfl) (by intro x hx; go_simp; (first | done | exact rfl)) ?_
  simp only [List.set_cons_succ, List.set_cons_zero]
  refine take_val (i := 7) (v := .agg #[.int .u64 (tn ((fromP 18446744073709551614#64 18446744073709551615#64).lo)), .int .u64 (tn ((fromP 18446744073709551614#64 18446744073709551615#64).hi))]) (st_ups _ _) rfl rfl (by kernel_rfl) (fun _ _ _ h => h) (by rfl) (by intro x hx; have f0 := hx.load 1 40 rfl rfl; have f1 := hx.load 1 41 rfl rfl; go_simp; (first | done | exact rfl)) ?_
  simp only [List.set_cons_succ, List.set_cons_zero]
  refine take_val (i := 8) (v := .bool false) (st_ups _ _) rfl rfl (by kernel_rfl) (fun _ _ _ h => h) (by rfl) (by intro x hx; go_simp; (first | done | exact (eqPT (fun b => Result.ok (Next.value (Value.bool (!b))) x) ((span_ToSpan (P.mk 18446744073709551614#64 18446744073709551615#64)).lo) ((span_ToSpan (P.mk 18446744073709551614#64 18446744073709551615#64)).hi) ((fromP 18446744073709551614#64 18446744073709551615#64).lo) ((fromP 18446744073709551614#64 18446744073709551615#64).hi)).trans (congrArg (fun b => Result.ok (Next.value (Value.bool (!b))) x) ((show (eqP (span_ToSpan (P.mk 18446744073709551614#64 18446744073709551615#64)) (fromP 18446744073709551614#64 18446744073709551615#64)) = true by decide +kernel))))) ?_
  simp only [List.set_cons_succ, List.set_cons_zero]
  refine take_done (by kernel_rfl) ?_ _
  intro W65 hx
  replace HS := hid hx
  clear hx
  -- region 5
  go_upto_region 5 with fail
  refine lin_begin (St w [⟨k1, (law_SpanKnown_c0.map some), 24⟩, ⟨k2, (law_SpanKnown_c1.map some), 24⟩]) rfl HS.out ?_
  refine lin_val (i := 0) (v := .int .i64 20) rfl rfl (by rfl) (by intro x hx; go_simp; (first | done | exact rfl)) ?_
  simp only [List.set_cons_succ, List.set_cons_zero]
  refine lin_val (i := 1) (v := .int .i64 21) rfl rfl (by rfl) (by intro x hx; go_simp; (first | done | exact rfl)) ?_
  simp only [List.set_cons_succ, List.set_cons_zero]
  refine lin_val (i := 2) (v := .int .i64 21) rfl rfl (by rfl) (by intro x hx; go_simp; (first | done | exact rfl)) ?_
  simp only [List.set_cons_succ, List.set_cons_zero]
  refine lin_done ?_
  intro W66 hx
  replace HS := hid hx
  clear hx
  go_wp2
  rw [rounds_succ]
  -- region 4
  go_upto_region 4 with fail
  refine lin_begin (St w [⟨k1, (law_SpanKnown_c0.map some), 24⟩, ⟨k2, (law_SpanKnown_c1.map some), 24⟩]) rfl HS.out ?_
  refine lin_val (i := 0) (v := .int .i64 21) rfl rfl (by rfl) (by intro x hx; go_simp; (first | done | exact rfl)) ?_
  simp only [List.set_cons_succ, List.set_cons_zero]
  refine lin_val (i := 1) (v := .slice (some ⟨k1, 0, none⟩) 25 25) rfl rfl (by rfl) (by intro x hx; go_simp; (first | done | exact rfl)) ?_
  simp only [List.set_cons_succ, List.set_cons_zero]
  refine lin_val (i := 2) (v := .int .i64 25) rfl rfl (by rfl) (by intro x hx; go_simp; (first | done | exact rfl)) ?_
  simp only [List.set_cons_succ, List.set_cons_zero]
  refine lin_val (i := 3) (v := .bool true) rfl rfl (by rfl) (by intro x hx; go_simp; (first | done | exact rfl)) ?_
  simp only [List.set_cons_succ, List.set_cons_zero]
  refine lin_done ?_
  intro W67 hx
  replace HS := hid hx
  clear hx
  -- region 6
  go_upto_region 6 with fail
  refine up_begin (St w [⟨k1, (law_SpanKnown_c0.map some), 24⟩, ⟨k2, (law_SpanKnown_c1.map some), 24⟩]) 9 rfl (by kernel_rfl) (HS.out.drew) ?_
  refine take_val (i := 0) (v := .slice (some ⟨k1, 0, none⟩) 25 25) (st_ups _ _) rfl rfl (by kernel_rfl) (fun _ _ _ h => h) (by rfl) (by intro x hx; go_simp; (first | done | exact rfl)) ?_
  simp only [List.set_cons_succ, List.set_cons_zero]
  refine take_val (i := 1) (v := .int .i64 21) (st_ups _ _) rfl rfl (by kernel_rfl) (fun _ _ _ h => h) (by rfl) (by intro x hx; go_simp; (first | done | exact rfl)) ?_
  simp only [List.set_cons_succ, List.set_cons_zero]
  refine take_val (i := 2) (v := .pointer (some ⟨k1, 42, none⟩)) (st_ups _ _) rfl rfl (by kernel_rfl) (fun _ _ _ h => h) (by rfl) (by intro x hx; go_simp; (first | done | exact rfl)) ?_
  simp only [List.set_cons_succ, List.set_cons_zero]
  refine take_val (i := 3) (v := .agg #[.int .u64 (tn ((span_ToSpan (P.mk 18446744073709551615#64 0#64)).lo)), .int .u64 (tn ((span_ToSpan (P.mk 18446744073709551615#64 0#64)).hi))]) (st_ups _ _) rfl rfl (by kernel_rfl) (fun _ _ _ h => h) (by rfl) (by intro x hx; have f0 := hx.load 0 42 rfl rfl; have f1 := hx.load 0 43 rfl rfl; go_simp; (first | done | exact rfl)) ?_
  simp only [List.set_cons_succ, List.set_cons_zero]
  refine take_val (i := 4) (v := .slice (some ⟨k2, 0, none⟩) 25 25) (st_ups _ _) rfl rfl (by kernel_rfl) (fun _ _ _ h => h) (by rfl) (by intro x hx; go_simp; (first | done | exact rfl)) ?_
  simp only [List.set_cons_succ, List.set_cons_zero]
  refine take_val (i := 5) (v := .int .i64 21) (st_ups _ _) rfl rfl (by kernel_rfl) (fun _ _ _ h => h) (by rfl) (by intro x hx; go_simp; (first | done | exact rfl)) ?_
  simp only [List.set_cons_succ, List.set_cons_zero]
  refine take_val (i := 6) (v := .pointer (some ⟨k2, 42, none⟩)) (st_ups _ _) rfl rfl (by kernel_rfl) (fun _ _ _ h => h) (by rfl) (by intro x hx; go_simp; (first | done | exact rfl)) ?_
  simp only [List.set_cons_succ, List.set_cons_zero]
  refine take_val (i := 7) (v := .agg #[.int .u64 (tn (0#64)), .int .u64 (tn (18446744073709551615#64))]) (st_ups _ _) rfl rfl (by kernel_rfl) (fun _ _ _ h => h) (by rfl) (by intro x hx; have f0 := hx.load 1 42 rfl rfl; have f1 := hx.load 1 43 rfl rfl; go_simp; (first | done | exact rfl)) ?_
  simp only [List.set_cons_succ, List.set_cons_zero]
  refine take_val (i := 8) (v := .bool false) (st_ups _ _) rfl rfl (by kernel_rfl) (fun _ _ _ h => h) (by rfl) (by intro x hx; go_simp; (first | done | exact (eqPT (fun b => Result.ok (Next.value (Value.bool (!b))) x) ((span_ToSpan (P.mk 18446744073709551615#64 0#64)).lo) ((span_ToSpan (P.mk 18446744073709551615#64 0#64)).hi) 0#64 18446744073709551615#64).trans (congrArg (fun b => Result.ok (Next.value (Value.bool (!b))) x) ((show (eqP (span_ToSpan (P.mk 18446744073709551615#64 0#64)) (P.mk 0#64 18446744073709551615#64)) = true by decide +kernel))))) ?_
  simp only [List.set_cons_succ, List.set_cons_zero]
  refine take_done (by kernel_rfl) ?_ _
  intro W68 hx
  replace HS := hid hx
  clear hx
  -- region 5
  go_upto_region 5 with fail
  refine lin_begin (St w [⟨k1, (law_SpanKnown_c0.map some), 24⟩, ⟨k2, (law_SpanKnown_c1.map some), 24⟩]) rfl HS.out ?_
  refine lin_val (i := 0) (v := .int .i64 21) rfl rfl (by rfl) (by intro x hx; go_simp; (first | done | exact rfl)) ?_
  simp only [List.set_cons_succ, List.set_cons_zero]
  refine lin_val (i := 1) (v := .int .i64 22) rfl rfl (by rfl) (by intro x hx; go_simp; (first | done | exact rfl)) ?_
  simp only [List.set_cons_succ, List.set_cons_zero]
  refine lin_val (i := 2) (v := .int .i64 22) rfl rfl (by rfl) (by intro x hx; go_simp; (first | done | exact rfl)) ?_
  simp only [List.set_cons_succ, List.set_cons_zero]
  refine lin_done ?_
  intro W69 hx
  replace HS := hid hx
  clear hx
  go_wp2
  rw [rounds_succ]
  -- region 4
  go_upto_region 4 with fail
  refine lin_begin (St w [⟨k1, (law_SpanKnown_c0.map some), 24⟩, ⟨k2, (law_SpanKnown_c1.map some), 24⟩]) rfl HS.out ?_
  refine lin_val (i := 0) (v := .int .i64 22) rfl rfl (by rfl) (by intro x hx; go_simp; (first | done | exact rfl)) ?_
  simp only [List.set_cons_succ, List.set_cons_zero]
  refine lin_val (i := 1) (v := .slice (some ⟨k1, 0, none⟩) 25 25) rfl rfl (by rfl) (by intro x hx; go_simp; (first | done | exact rfl)) ?_
  simp only [List.set_cons_succ, List.set_cons_zero]
  refine lin_val (i := 2) (v := .int .i64 25) rfl rfl (by rfl) (by intro x hx; go_simp; (first | done | exact rfl)) ?_
  simp only [List.set_cons_succ, List.set_cons_zero]
  refine lin_val (i := 3) (v := .bool true) rfl rfl (by rfl) (by intro x hx; go_simp; (first | done | exact rfl)) ?_
  simp only [List.set_cons_succ, List.set_cons_zero]
  refine lin_done ?_
  intro W70 hx
  replace HS := hid hx
  clear hx
  -- region 6
  go_upto_region 6 with fail
  refine up_begin (St w [⟨k1, (law_SpanKnown_c0.map some), 24⟩, ⟨k2, (law_SpanKnown_c1.map some), 24⟩]) 9 rfl (by kernel_rfl) (HS.out.drew) ?_
  refine take_val (i := 0) (v := .slice (some ⟨k1, 0, none⟩) 25 25) (st_ups _ _) rfl rfl (by kernel_rfl) (fun _ _ _ h => h) (by rfl) (by intro x hx; go_simp; (first | done | exact rfl)) ?_
  simp only [List.set_cons_succ, List.set_cons_zero]
  refine take_val (i := 1) (v := .int .i64 22) (st_ups _ _) rfl rfl (by kernel_rfl) (fun _ _ _ h => h) (by rfl) (by intro x hx; go_simp; (first | done | exact rfl)) ?_
  simp only [List.set_cons_succ, List.set_cons_zero]
  refine take_val (i := 2) (v := .pointer (some ⟨k1, 44, none⟩)) (st_ups _ _) rfl rfl (by kernel_rfl) (fun _ _ _ h => h) (by rfl) (by intro x hx; go_simp; (first | done | exact rfl)) ?_
  simp only [List.set_cons_succ, List.set_cons_zero]
  refine take_val (i := 3) (v := .agg #[.int .u64 (tn ((P.mk 4#64 9#64).lo)), .int .u64 (tn ((P.mk 4#64 9#64).lo ||| (P.mk 4#64 9#64).hi))]) (st_ups _ _) rfl rfl (by kernel_rfl) (fun _ _ _ h => h) (by rfl) (by intro x hx; have f0 := hx.load 0 44 rfl rfl; have f1 := hx.load 0 45 rfl rfl; go_simp; (first | done | exact rfl)) ?_
  simp only [List.set_cons_succ, List.set_cons_zero]
  refine take_val (i := 4) (v := .slice (some ⟨k2, 0, none⟩) 25 25) (st_ups _ _) rfl rfl (by kernel_rfl) (fun _ _ _ h => h) (by rfl) (by intro x hx; go_simp; (first | done | exact rfl)) ?_
  simp only [List.set_cons_succ, List.set_cons_zero]
  refine take_val (i := 5) (v := .int .i64 22) (st_ups _ _) rfl rfl (by kernel_rfl) (fun _ _ _ h => h) (by rfl) (by intro x hx; go_simp; (first | done | exact rfl)) ?_
  simp only [List.set_cons_succ, List.set_cons_zero]
  refine take_val (i := 6) (v := .pointer (some ⟨k2, 44, none⟩)) (st_ups _ _) rfl rfl (by kernel_rfl) (fun _ _ _ h => h) (by rfl) (by intro x hx; go_simp; (first | done | exact rfl)) ?_
  simp only [List.set_cons_succ, List.set_cons_zero]
  refine take_val (i := 7) (v := .agg #[.int .u64 (tn ((fromP 4#64 13#64).lo)), .int .u64 (tn ((fromP 4#64 13#64).hi))]) (st_ups _ _) rfl rfl (by kernel_rfl) (fun _ _ _ h => h) (by rfl) (by intro x hx; have f0 := hx.load 1 44 rfl rfl; have f1 := hx.load 1 45 rfl rfl; go_simp; (first | done | exact rfl)) ?_
  simp only [List.set_cons_succ, List.set_cons_zero]
  refine take_val (i := 8) (v := .bool false) (st_ups _ _) rfl rfl (by kernel_rfl) (fun _ _ _ h => h) (by rfl) (by intro x hx; go_simp; (first | done | exact (eqPT (fun b => Result.ok (Next.value (Value.bool (!b))) x) ((P.mk 4#64 9#64).lo) ((P.mk 4#64 9#64).lo ||| (P.mk 4#64 9#64).hi) ((fromP 4#64 13#64).lo) ((fromP 4#64 13#64).hi)).trans (congrArg (fun b => Result.ok (Next.value (Value.bool (!b))) x) ((show (eqP (P.mk ((P.mk 4#64 9#64).lo) ((P.mk 4#64 9#64).lo ||| (P.mk 4#64 9#64).hi)) (fromP 4#64 13#64)) = true by decide +kernel))))) ?_
  simp only [List.set_cons_succ, List.set_cons_zero]
  refine take_done (by kernel_rfl) ?_ _
  intro W71 hx
  replace HS := hid hx
  clear hx
  -- region 5
  go_upto_region 5 with fail
  refine lin_begin (St w [⟨k1, (law_SpanKnown_c0.map some), 24⟩, ⟨k2, (law_SpanKnown_c1.map some), 24⟩]) rfl HS.out ?_
  refine lin_val (i := 0) (v := .int .i64 22) rfl rfl (by rfl) (by intro x hx; go_simp; (first | done | exact rfl)) ?_
  simp only [List.set_cons_succ, List.set_cons_zero]
  refine lin_val (i := 1) (v := .int .i64 23) rfl rfl (by rfl) (by intro x hx; go_simp; (first | done | exact rfl)) ?_
  simp only [List.set_cons_succ, List.set_cons_zero]
  refine lin_val (i := 2) (v := .int .i64 23) rfl rfl (by rfl) (by intro x hx; go_simp; (first | done | exact rfl)) ?_
  simp only [List.set_cons_succ, List.set_cons_zero]
  refine lin_done ?_
  intro W72 hx
  replace HS := hid hx
  clear hx
  go_wp2
  rw [rounds_succ]
  -- region 4
  go_upto_region 4 with fail
  refine lin_begin (St w [⟨k1, (law_SpanKnown_c0.map some), 24⟩, ⟨k2, (law_SpanKnown_c1.map some), 24⟩]) rfl HS.out ?_
  refine lin_val (i := 0) (v := .int .i64 23) rfl rfl (by rfl) (by intro x hx; go_simp; (first | done | exact rfl)) ?_
  simp only [List.set_cons_succ, List.set_cons_zero]
  refine lin_val (i := 1) (v := .slice (some ⟨k1, 0, none⟩) 25 25) rfl rfl (by rfl) (by intro x hx; go_simp; (first | done | exact rfl)) ?_
  simp only [List.set_cons_succ, List.set_cons_zero]
  refine lin_val (i := 2) (v := .int .i64 25) rfl rfl (by rfl) (by intro x hx; go_simp; (first | done | exact rfl)) ?_
  simp only [List.set_cons_succ, List.set_cons_zero]
  refine lin_val (i := 3) (v := .bool true) rfl rfl (by rfl) (by intro x hx; go_simp; (first | done | exact rfl)) ?_
  simp only [List.set_cons_succ, List.set_cons_zero]
  refine lin_done ?_
  intro W73 hx
  replace HS := hid hx
  clear hx
  -- region 6
  go_upto_region 6 with fail
  refine up_begin (St w [⟨k1, (law_SpanKnown_c0.map some), 24⟩, ⟨k2, (law_SpanKnown_c1.map some), 24⟩]) 9 rfl (by kernel_rfl) (HS.out.drew) ?_
  refine take_val (i := 0) (v := .slice (some ⟨k1, 0, none⟩) 25 25) (st_ups _ _) rfl rfl (by kernel_rfl) (fun _ _ _ h => h) (by rfl) (by intro x hx; go_simp; (first | done | exact rfl)) ?_
  simp only [List.set_cons_succ, List.set_cons_zero]
  refine take_val (i := 1) (v := .int .i64 23) (st_ups _ _) rfl rfl (by kernel_rfl) (fun _ _ _ h => h) (by rfl) (by intro x hx; go_simp; (first | done | exact rfl)) ?_
  simp only [List.set_cons_succ, List.set_cons_zero]
  refine take_val (i := 2) (v := .pointer (some ⟨k1, 46, none⟩)) (st_ups _ _) rfl rfl (by kernel_rfl) (fun _ _ _ h => h) (by rfl) (by intro x hx; go_simp; (first | done | exact rfl)) ?_
  simp only [List.set_cons_succ, List.set_cons_zero]
  refine take_val (i := 3) (v := .agg #[.int .u64 (tn (maxU (P.mk 0#64 18446744073709551615#64).lo (P.mk 0#64 0#64).lo)), .int .u64 (tn (onesV (maxU (P.mk 0#64 18446744073709551615#64).hi (P.mk 0#64 0#64).hi)))]) (st_ups _ _) rfl rfl (by kernel_rfl) (fun _ _ _ h => h) (by rfl) (by intro x hx; have f0 := hx.load 0 46 rfl rfl; have f1 := hx.load 0 47 rfl rfl; go_simp; (first | done | exact rfl)) ?_
  simp only [List.set_cons_succ, List.set_cons_zero]
  refine take_val (i := 4) (v := .slice (some ⟨k2, 0, none⟩) 25 25) (st_ups _ _) rfl rfl (by kernel_rfl) (fun _ _ _ h => h) (by rfl) (by intro x hx; go_simp; (first | done | exact rfl)) ?_
  simp only [List.set_cons_succ, List.set_cons_zero]
  refine take_val (i := 5) (v := .int .i64 23) (st_ups _ _) rfl rfl (by kernel_rfl) (fun _ _ _ h => h) (by rfl) (by intro x hx; go_simp; (first | done | exact rfl)) ?_
  simp only [List.set_cons_succ, List.set_cons_zero]
  refine take_val (i := 6) (v := .pointer (some ⟨k2, 46, none⟩)) (st_ups _ _) rfl rfl (by kernel_rfl) (fun _ _ _ h => h) (by rfl) (by intro x hx; go_simp; (first | done | exact rfl)) ?_
  simp only [List.set_cons_succ, List.set_cons_zero]
  refine take_val (i := 7) (v := .agg #[.int .u64 (tn (0#64)), .int .u64 (tn (18446744073709551615#64))]) (st_ups _ _) rfl rfl (by kernel_rfl) (fun _ _ _ h => h) (by rfl) (by intro x hx; have f0 := hx.load 1 46 rfl rfl; have f1 := hx.load 1 47 rfl rfl; go_simp; (first | done | exact rfl)) ?_
  simp only [List.set_cons_succ, List.set_cons_zero]
  refine take_val (i := 8) (v := .bool false) (st_ups _ _) rfl rfl (by kernel_rfl) (fun _ _ _ h => h) (by rfl) (by intro x hx; go_simp; (first | done | exact (eqPT (fun b => Result.ok (Next.value (Value.bool (!b))) x) (maxU (P.mk 0#64 18446744073709551615#64).lo (P.mk 0#64 0#64).lo) (onesV (maxU (P.mk 0#64 18446744073709551615#64).hi (P.mk 0#64 0#64).hi)) 0#64 18446744073709551615#64).trans (congrArg (fun b => Result.ok (Next.value (Value.bool (!b))) x) ((show (eqP (P.mk (maxU (P.mk 0#64 18446744073709551615#64).lo (P.mk 0#64 0#64).lo) (onesV (maxU (P.mk 0#64 18446744073709551615#64).hi (P.mk 0#64 0#64).hi))) (P.mk 0#64 18446744073709551615#64)) = true by decide +kernel))))) ?_
  simp only [List.set_cons_succ, List.set_cons_zero]
  refine take_done (by kernel_rfl) ?_ _
  intro W74 hx
  replace HS := hid hx
  clear hx
  -- region 5
  go_upto_region 5 with fail
  refine lin_begin (St w [⟨k1, (law_SpanKnown_c0.map some), 24⟩, ⟨k2, (law_SpanKnown_c1.map some), 24⟩]) rfl HS.out ?_
  refine lin_val (i := 0) (v := .int .i64 23) rfl rfl (by rfl) (by intro x hx; go_simp; (first | done | exact rfl)) ?_
  simp only [List.set_cons_succ, List.set_cons_zero]
  refine lin_val (i := 1) (v := .int .i64 24) rfl rfl (by rfl) (by intro x hx; go_simp; (first | done | exact rfl)) ?_
  simp only [List.set_cons_succ, List.set_cons_zero]
  refine lin_val (i := 2) (v := .int .i64 24) rfl rfl (by rfl) (by intro x hx; go_simp; (first | done | exact rfl)) ?_
  simp only [List.set_cons_succ, List.set_cons_zero]
  refine lin_done ?_
  intro W75 hx
  replace HS := hid hx
  clear hx
  go_wp2
  rw [rounds_succ]
  -- region 4
  go_upto_region 4 with fail
  refine lin_begin (St w [⟨k1, (law_SpanKnown_c0.map some), 24⟩, ⟨k2, (law_SpanKnown_c1.map some), 24⟩]) rfl HS.out ?_
  refine lin_val (i := 0) (v := .int .i64 24) rfl rfl (by rfl) (by intro x hx; go_simp; (first | done | exact rfl)) ?_
  simp only [List.set_cons_succ, List.set_cons_zero]
  refine lin_val (i := 1) (v := .slice (some ⟨k1, 0, none⟩) 25 25) rfl rfl (by rfl) (by intro x hx; go_simp; (first | done | exact rfl)) ?_
  simp only [List.set_cons_succ, List.set_cons_zero]
  refine lin_val (i := 2) (v := .int .i64 25) rfl rfl (by rfl) (by intro x hx; go_simp; (first | done | exact rfl)) ?_
  simp only [List.set_cons_succ, List.set_cons_zero]
  refine lin_val (i := 3) (v := .bool true) rfl rfl (by rfl) (by intro x hx; go_simp; (first | done | exact rfl)) ?_
  simp only [List.set_cons_succ, List.set_cons_zero]
  refine lin_done ?_
  intro W76 hx
  replace HS := hid hx
  clear hx
  -- region 6
  go_upto_region 6 with fail
  refine up_begin (St w [⟨k1, (law_SpanKnown_c0.map some), 24⟩, ⟨k2, (law_SpanKnown_c1.map some), 24⟩]) 9 rfl (by kernel_rfl) (HS.out.drew) ?_
  refine take_val (i := 0) (v := .slice (some ⟨k1, 0, none⟩) 25 25) (st_ups _ _) rfl rfl (by kernel_rfl) (fun _ _ _ h => h) (by rfl) (by intro x hx; go_simp; (first | done | exact rfl)) ?_
  simp only [List.set_cons_succ, List.set_cons_zero]
  refine take_val (i := 1) (v := .int .i64 24) (st_ups _ _) rfl rfl (by kernel_rfl) (fun _ _ _ h => h) (by rfl) (by intro x hx; go_simp; (first | done | exact rfl)) ?_
  simp only [List.set_cons_succ, List.set_cons_zero]
  refine take_val (i := 2) (v := .pointer (some ⟨k1, 48, none⟩)) (st_ups _ _) rfl rfl (by kernel_rfl) (fun _ _ _ h => h) (by rfl) (by intro x hx; go_simp; (first | done | exact rfl)) ?_
  simp only [List.set_cons_succ, List.set_cons_zero]
  refine take_val (i := 3) (v := .agg #[.int .u64 (tn ((span_Sub (P.mk 0#64 0#64) (fromP 1#64 2#64)).lo)), .int .u64 (tn ((span_Sub (P.mk 0#64 0#64) (fromP 1#64 2#64)).hi))]) (st_ups _ _) rfl rfl (by kernel_rfl) (fun _ _ _ h => h) (by rfl) (by intro x hx; have f0 := hx.load 0 48 rfl rfl; have f1 := hx.load 0 49 rfl rfl; go_simp; (first | done | exact rfl)) ?_
  simp only [List.set_cons_succ, List.set_cons_zero]
  refine take_val (i := 4) (v := .slice (some ⟨k2, 0, none⟩) 25 25) (st_ups _ _) rfl rfl (by kernel_rfl) (fun _ _ _ h => h) (by rfl) (by intro x hx; go_simp; (first | done | exact rfl)) ?_
  simp only [List.set_cons_succ, List.set_cons_zero]
  refine take_val (i := 5) (v := .int .i64 24) (st_ups _ _) rfl rfl (by kernel_rfl) (fun _ _ _ h => h) (by rfl) (by intro x hx; go_simp; (first | done | exact rfl)) ?_
  simp only [List.set_cons_succ, List.set_cons_zero]
  refine take_val (i := 6) (v := .pointer (some ⟨k2, 48, none⟩)) (st_ups _ _) rfl rfl (by kernel_rfl) (fun _ _ _ h => h) (by rfl) (by intro x hx; go_simp; (first | done | exact rfl)) ?_
  simp only [List.set_cons_succ, List.set_cons_zero]
  refine take_val (i := 7) (v := .agg #[.int .u64 (tn ((fromP 18446744073709551614#64 18446744073709551615#64).lo)), .int .u64 (tn ((fromP 18446744073709551614#64 18446744073709551615#64).hi))]) (st_ups _ _) rfl rfl (by kernel_rfl) (fun _ _ _ h => h) (by rfl) (by intro x hx; have f0 := hx.load 1 48 rfl rfl; have f1 := hx.load 1 49 rfl rfl; go_simp; (first | done | exact rfl)) ?_
  simp only [List.set_cons_succ, List.set_cons_zero]
  refine take_val (i := 8) (v := .bool false) (st_ups _ _) rfl rfl (by kernel_rfl) (fun _ _ _ h => h) (by rfl) (by intro x hx; go_simp; (first | done | exact (eqPT (fun b => Result.ok (Next.value (Value.bool (!b))) x) ((span_Sub (P.mk 0#64 0#64) (fromP 1#64 2#64)).lo) ((span_Sub (P.mk 0#64 0#64) (fromP 1#64 2#64)).hi) ((fromP 18446744073709551614#64 18446744073709551615#64).lo) ((fromP 18446744073709551614#64 18446744073709551615#64).hi)).trans (congrArg (fun b => Result.ok (Next.value (Value.bool (!b))) x) ((show (eqP (span_Sub (P.mk 0#64 0#64) (fromP 1#64 2#64)) (fromP 18446744073709551614#64 18446744073709551615#64)) = true by decide +kernel))))) ?_
  simp only [List.set_cons_succ, List.set_cons_zero]
  refine take_done (by kernel_rfl) ?_ _
  intro W77 hx
  replace HS := hid hx
  clear hx
  -- region 5
  go_upto_region 5 with fail
  refine lin_begin (St w [⟨k1, (law_SpanKnown_c0.map some), 24⟩, ⟨k2, (law_SpanKnown_c1.map some), 24⟩]) rfl HS.out ?_
  refine lin_val (i := 0) (v := .int .i64 24) rfl rfl (by rfl) (by intro x hx; go_simp; (first | done | exact rfl)) ?_
  simp only [List.set_cons_succ, List.set_cons_zero]
  refine lin_val (i := 1) (v := .int .i64 25) rfl rfl (by rfl) (by intro x hx; go_simp; (first | done | exact rfl)) ?_
  simp only [List.set_cons_succ, List.set_cons_zero]
  refine lin_val (i := 2) (v := .int .i64 25) rfl rfl (by rfl) (by intro x hx; go_simp; (first | done | exact rfl)) ?_
  simp only [List.set_cons_succ, List.set_cons_zero]
  refine lin_done ?_
  intro W78 hx
  replace HS := hid hx
  clear hx
  go_wp2
  rw [rounds_succ]
  -- region 4
  go_upto_region 4 with fail
  refine lin_begin (St w [⟨k1, (law_SpanKnown_c0.map some), 24⟩, ⟨k2, (law_SpanKnown_c1.map some), 24⟩]) rfl HS.out ?_
  refine lin_val (i := 0) (v := .int .i64 25) rfl rfl (by rfl) (by intro x hx; go_simp; (first | done | exact rfl)) ?_
  simp only [List.set_cons_succ, List.set_cons_zero]
  refine lin_val (i := 1) (v := .slice (some ⟨k1, 0, none⟩) 25 25) rfl rfl (by rfl) (by intro x hx; go_simp; (first | done | exact rfl)) ?_
  simp only [List.set_cons_succ, List.set_cons_zero]
  refine lin_val (i := 2) (v := .int .i64 25) rfl rfl (by rfl) (by intro x hx; go_simp; (first | done | exact rfl)) ?_
  simp only [List.set_cons_succ, List.set_cons_zero]
  refine lin_val (i := 3) (v := .bool false) rfl rfl (by rfl) (by intro x hx; go_simp; (first | done | exact rfl)) ?_
  simp only [List.set_cons_succ, List.set_cons_zero]
  refine lin_done ?_
  intro W79 hx
  replace HS := hid hx
  clear hx
  -- region 8
  go_upto_region 8 with fail
  refine lin_begin (St w [⟨k1, (law_SpanKnown_c0.map some), 24⟩, ⟨k2, (law_SpanKnown_c1.map some), 24⟩]) rfl HS.out ?_
  refine lin_val (i := 0) (v := .agg #[.int .i64 (-9223372036854775808), .int .i64 (-9223372036854775808)]) rfl rfl (by rfl) (by intro x hx; go_simp; (first | done | exact rfl)) ?_
  simp only [List.set_cons_succ, List.set_cons_zero]
  refine lin_new (i := 1) rfl rfl (by rfl) [.int .i64 0, .int .i64 0] 38 (fun k => .pointer (some ⟨k, 0, none⟩)) [some (.int .i64 0), some (.int .i64 0)] (lessC_refl _) (by intro x hx; go_simp; (first | done | exact rfl)) (fun k3 => ?_)
  simp only [List.set_cons_succ, List.set_cons_zero]
  refine lin_store (i := 2) (St w [⟨k1, (law_SpanKnown_c0.map some), 24⟩, ⟨k2, (law_SpanKnown_c1.map some), 24⟩, ⟨k3, [some (.int .i64 (-9223372036854775808)), some (.int .i64 (-9223372036854775808))], 38⟩]) rfl rfl (by rfl) (fun x => ((x.setCell ⟨k3, 0, none⟩ (.int .i64 (-9223372036854775808))).setCell ⟨k3, 1, none⟩ (.int .i64 (-9223372036854775808)))) (by intro x hx; obtain ⟨u0, z0⟩ := hx.has 2 0 rfl (by simp); have q0 := hx.soft 2 0 rfl; obtain ⟨u1, z1⟩ := hx.has 2 1 rfl (by simp); have q1 := hx.soft 2 1 rfl; go_simp; (first | done | rfl)) (fun x hx => ((hx.put 2 0 (.int .i64 (-9223372036854775808)) rfl).put 2 1 (.int .i64 (-9223372036854775808)) rfl)) ?_
  refine lin_done ?_
  intro W80 hx
  replace HS := hid hx
  clear hx
  -- region 9
  go_upto_region 9 with fail
  refine up_begin (St w [⟨k1, (law_SpanKnown_c0.map some), 24⟩, ⟨k2, (law_SpanKnown_c1.map some), 24⟩, ⟨k3, [some (.int .i64 (-9223372036854775808)), some (.int .i64 (-9223372036854775808))], 38⟩]) 32 rfl (by kernel_rfl) (HS.out.drew) ?_
  refine take_call (i := 0) (f := 79) (args := #[.int .u64 (tn (9223372036854775808#64)), .int .u64 (tn (18446744073709551615#64))]) (v := .agg #[.int .u64 (tn ((fromP 9223372036854775808#64 18446744073709551615#64).lo)), .int .u64 (tn ((fromP 9223372036854775808#64 18446744073709551615#64).hi))]) (st_ups _ _) rfl rfl (by kernel_rfl) (fun _ _ _ h => h) (by rfl) (fun x hx => by kernel_rfl) (by intro x hx; exact fromP_any 9223372036854775808#64 18446744073709551615#64 _) ?_
  simp only [List.set_cons_succ, List.set_cons_zero]
  refine take_call (i := 1) (f := 68) (args := #[.agg #[.int .u64 (tn ((fromP 9223372036854775808#64 18446744073709551615#64).lo)), .int .u64 (tn ((fromP 9223372036854775808#64 18446744073709551615#64).hi))]]) (v := .agg #[.int .i64 (ti ((span_ToSigned (fromP 9223372036854775808#64 18446744073709551615#64)).lo)), .int .i64 (ti ((span_ToSigned (fromP 9223372036854775808#64 18446744073709551615#64)).hi))]) (st_ups _ _) rfl rfl (by kernel_rfl) (fun _ _ _ h => h) (by rfl) (fun x hx => by kernel_rfl) (by intro x hx; exact span_ToSigned_any (fromP 9223372036854775808#64 18446744073709551615#64) _) ?_
  simp only [List.set_cons_succ, List.set_cons_zero]
  refine take_val (i := 2) (v := .agg #[.int .i64 (-9223372036854775808), .int .i64 (-1)]) (st_ups _ _) rfl rfl (by kernel_rfl) (fun _ _ _ h => h) (by rfl) (by intro x hx; go_simp; (first | done | exact rfl)) ?_
  simp only [List.set_cons_succ, List.set_cons_zero]
  refine take_val (i := 3) (v := .bool true) (st_ups _ _) rfl rfl (by kernel_rfl) (fun _ _ _ h => h) (by rfl) (by intro x hx; go_simp; (first | done | exact (eqST (fun b => Result.ok (Next.value (Value.bool b)) x) ((span_ToSigned (fromP 9223372036854775808#64 18446744073709551615#64)).lo) ((span_ToSigned (fromP 9223372036854775808#64 18446744073709551615#64)).hi) 9223372036854775808#64 18446744073709551615#64).trans (congrArg (fun b => Result.ok (Next.value (Value.bool b)) x) ((show (eqS (span_ToSigned (fromP 9223372036854775808#64 18446744073709551615#64)) (P.mk 9223372036854775808#64 18446744073709551615#64)) = true by decide +kernel))))) ?_
  simp only [List.set_cons_succ, List.set_cons_zero]
  refine take_val (i := 4) (v := .bool true) (st_ups _ _) rfl rfl (by kernel_rfl) (fun _ _ _ h => h) (by rfl) (by intro x hx; go_simp; (first | done | exact rfl)) ?_
  simp only [List.set_cons_succ, List.set_cons_zero]
  refine take_call (i := 5) (f := 79) (args := #[.int .u64 (tn (0#64)), .int .u64 (tn (9223372036854775808#64))]) (v := .agg #[.int .u64 (tn ((fromP 0#64 9223372036854775808#64).lo)), .int .u64 (tn ((fromP 0#64 9223372036854775808#64).hi))]) (st_ups _ _) rfl rfl (by kernel_rfl) (fun _ _ _ h => h) (by rfl) (fun x hx => by kernel_rfl) (by intro x hx; exact fromP_any 0#64 9223372036854775808#64 _) ?_
  simp only [List.set_cons_succ, List.set_cons_zero]
  refine take_call (i := 6) (f := 68) (args := #[.agg #[.int .u64 (tn ((fromP 0#64 9223372036854775808#64).lo)), .int .u64 (tn ((fromP 0#64 9223372036854775808#64).hi))]]) (v := .agg #[.int .i64 (ti ((span_ToSigned (fromP 0#64 9223372036854775808#64)).lo)), .int .i64 (ti ((span_ToSigned (fromP 0#64 9223372036854775808#64)).hi))]) (st_ups _ _) rfl rfl (by kernel_rfl) (fun _ _ _ h => h) (by rfl) (fun x hx => by kernel_rfl) (by intro x hx; exact span_ToSigned_any (fromP 0#64 9223372036854775808#64) _) ?_
  simp only [List.set_cons_succ, List.set_cons_zero]
  refine take_call (i := 7) (f := 52) (args := #[]) (v := .agg #[.int .i64 (ti (9223372036854775808#64)), .int .i64 (ti (9223372036854775807#64))]) (st_ups _ _) rfl rfl (by kernel_rfl) (fun _ _ _ h => h) (by rfl) (fun x hx => by kernel_rfl) (by intro x hx; exact span_Sall_any _) ?_
  simp only [List.set_cons_succ, List.set_cons_zero]
  refine take_val (i := 8) (v := .bool true) (st_ups _ _) rfl rfl (by kernel_rfl) (fun _ _ _ h => h) (by rfl) (by intro x hx; go_simp; (first | done | exact (eqST (fun b => Result.ok (Next.value (Value.bool b)) x) ((span_ToSigned (fromP 0#64 9223372036854775808#64)).lo) ((span_ToSigned (fromP 0#64 9223372036854775808#64)).hi) 9223372036854775808#64 9223372036854775807#64).trans (congrArg (fun b => Result.ok (Next.value (Value.bool b)) x) ((show (eqS (span_ToSigned (fromP 0#64 9223372036854775808#64)) (P.mk 9223372036854775808#64 9223372036854775807#64)) = true by decide +kernel))))) ?_
  simp only [List.set_cons_succ, List.set_cons_zero]
  refine take_val (i := 9) (v := .bool true) (st_ups _ _) rfl rfl (by kernel_rfl) (fun _ _ _ h => h) (by rfl) (by intro x hx; go_simp; (first | done | exact rfl)) ?_
  simp only [List.set_cons_succ, List.set_cons_zero]
  refine take_val (i := 10) (v := .bool true) (st_ups _ _) rfl rfl (by kernel_rfl) (fun _ _ _ h => h) (by rfl) (by intro x hx; go_simp; (first | done | exact rfl)) ?_
  simp only [List.set_cons_succ, List.set_cons_zero]
  refine take_val (i := 11) (v := .agg #[.int .i64 (-9223372036854775808), .int .i64 (-9223372036854775808)]) (st_ups _ _) rfl rfl (by kernel_rfl) (fun _ _ _ h => h) (by rfl) (by intro x hx; have f0 := hx.load 2 0 rfl rfl; have f1 := hx.load 2 1 rfl rfl; go_simp; (first | done | exact rfl)) ?_
  simp only [List.set_cons_succ, List.set_cons_zero]
  refine take_call (i := 12) (f := 50) (args := #[.int .i64 (ti (18446744073709551615#64))]) (v := .agg #[.int .i64 (ti (18446744073709551615#64)), .int .i64 (ti (18446744073709551615#64))]) (st_ups _ _) rfl rfl (by kernel_rfl) (fun _ _ _ h => h) (by rfl) (fun x hx => by kernel_rfl) (by intro x hx; exact span_Sof_any 18446744073709551615#64 _) ?_
  simp only [List.set_cons_succ, List.set_cons_zero]
  refine take_call (i := 13) (f := 60) (args := #[.agg #[.int .i64 (ti (9223372036854775808#64)), .int .i64 (ti (9223372036854775808#64))], .agg #[.int .i64 (ti (18446744073709551615#64)), .int .i64 (ti (18446744073709551615#64))]]) (v := .agg #[.int .i64 (ti ((span_Sadd (P.mk 9223372036854775808#64 9223372036854775808#64) (P.mk 18446744073709551615#64 18446744073709551615#64)).lo)), .int .i64 (ti ((span_Sadd (P.mk 9223372036854775808#64 9223372036854775808#64) (P.mk 18446744073709551615#64 18446744073709551615#64)).hi))]) (st_ups _ _) rfl rfl (by kernel_rfl) (fun _ _ _ h => h) (by rfl) (fun x hx => by kernel_rfl) (by intro x hx; exact span_Sadd_any (P.mk 9223372036854775808#64 9223372036854775808#64) (P.mk 18446744073709551615#64 18446744073709551615#64) _) ?_
  simp only [List.set_cons_succ, List.set_cons_zero]
  refine take_call (i := 14) (f := 52) (args := #[]) (v := .agg #[.int .i64 (ti (9223372036854775808#64)), .int .i64 (ti (9223372036854775807#64))]) (st_ups _ _) rfl rfl (by kernel_rfl) (fun _ _ _ h => h) (by rfl) (fun x hx => by kernel_rfl) (by intro x hx; exact span_Sall_any _) ?_
  simp only [List.set_cons_succ, List.set_cons_zero]
  refine take_val (i := 15) (v := .bool true) (st_ups _ _) rfl rfl (by kernel_rfl) (fun _ _ _ h => h) (by rfl) (by intro x hx; go_simp; (first | done | exact (eqST (fun b => Result.ok (Next.value (Value.bool b)) x) ((span_Sadd (P.mk 9223372036854775808#64 9223372036854775808#64) (P.mk 18446744073709551615#64 18446744073709551615#64)).lo) ((span_Sadd (P.mk 9223372036854775808#64 9223372036854775808#64) (P.mk 18446744073709551615#64 18446744073709551615#64)).hi) 9223372036854775808#64 9223372036854775807#64).trans (congrArg (fun b => Result.ok (Next.value (Value.bool b)) x) ((show (eqS (span_Sadd (P.mk 9223372036854775808#64 9223372036854775808#64) (P.mk 18446744073709551615#64 18446744073709551615#64)) (P.mk 9223372036854775808#64 9223372036854775807#64)) = true by decide +kernel))))) ?_
  simp only [List.set_cons_succ, List.set_cons_zero]
  refine take_val (i := 16) (v := .bool true) (st_ups _ _) rfl rfl (by kernel_rfl) (fun _ _ _ h => h) (by rfl) (by intro x hx; go_simp; (first | done | exact rfl)) ?_
  simp only [List.set_cons_succ, List.set_cons_zero]
  refine take_val (i := 17) (v := .bool true) (st_ups _ _) rfl rfl (by kernel_rfl) (fun _ _ _ h => h) (by rfl) (by intro x hx; go_simp; (first | done | exact rfl)) ?_
  simp only [List.set_cons_succ, List.set_cons_zero]
  refine take_call (i := 18) (f := 50) (args := #[.int .i64 (ti (0#64))]) (v := .agg #[.int .i64 (ti (0#64)), .int .i64 (ti (0#64))]) (st_ups _ _) rfl rfl (by kernel_rfl) (fun _ _ _ h => h) (by rfl) (fun x hx => by kernel_rfl) (by intro x hx; exact span_Sof_any 0#64 _) ?_
  simp only [List.set_cons_succ, List.set_cons_zero]
  refine take_val (i := 19) (v := .agg #[.int .i64 (-9223372036854775808), .int .i64 (-9223372036854775808)]) (st_ups _ _) rfl rfl (by kernel_rfl) (fun _ _ _ h => h) (by rfl) (by intro x hx; have f0 := hx.load 2 0 rfl rfl; have f1 := hx.load 2 1 rfl rfl; go_simp; (first | done | exact rfl)) ?_
  simp only [List.set_cons_succ, List.set_cons_zero]
  refine take_call (i := 20) (f := 62) (args := #[.agg #[.int .i64 (ti (0#64)), .int .i64 (ti (0#64))], .agg #[.int .i64 (ti (9223372036854775808#64)), .int .i64 (ti (9223372036854775808#64))]]) (v := .agg #[.int .i64 (ti ((span_Ssub (P.mk 0#64 0#64) (P.mk 9223372036854775808#64 9223372036854775808#64)).lo)), .int .i64 (ti ((span_Ssub (P.mk 0#64 0#64) (P.mk 9223372036854775808#64 9223372036854775808#64)).hi))]) (st_ups _ _) rfl rfl (by kernel_rfl) (fun _ _ _ h => h) (by rfl) (fun x hx => by kernel_rfl) (by intro x hx; exact span_Ssub_any (P.mk 0#64 0#64) (P.mk 9223372036854775808#64 9223372036854775808#64) _) ?_
  simp only [List.set_cons_succ, List.set_cons_zero]
  refine take_call (i := 21) (f := 52) (args := #[]) (v := .agg #[.int .i64 (ti (9223372036854775808#64)), .int .i64 (ti (9223372036854775807#64))]) (st_ups _ _) rfl rfl (by kernel_rfl) (fun _ _ _ h => h) (by rfl) (fun x hx => by kernel_rfl) (by intro x hx; exact span_Sall_any _) ?_
  simp only [List.set_cons_succ, List.set_cons_zero]
  refine take_val (i := 22) (v := .bool true) (st_ups _ _) rfl rfl (by kernel_rfl) (fun _ _ _ h => h) (by rfl) (by intro x hx; go_simp; (first | done | exact (eqST (fun b => Result.ok (Next.value (Value.bool b)) x) ((span_Ssub (P.mk 0#64 0#64) (P.mk 9223372036854775808#64 9223372036854775808#64)).lo) ((span_Ssub (P.mk 0#64 0#64) (P.mk 9223372036854775808#64 9223372036854775808#64)).hi) 9223372036854775808#64 9223372036854775807#64).trans (congrArg (fun b => Result.ok (Next.value (Value.bool b)) x) ((show (eqS (span_Ssub (P.mk 0#64 0#64) (P.mk 9223372036854775808#64 9223372036854775808#64)) (P.mk 9223372036854775808#64 9223372036854775807#64)) = true by decide +kernel))))) ?_
  simp only [List.set_cons_succ, List.set_cons_zero]
  refine take_val (i := 23) (v := .bool true) (st_ups _ _) rfl rfl (by kernel_rfl) (fun _ _ _ h => h) (by rfl) (by intro x hx; go_simp; (first | done | exact rfl)) ?_
  simp only [List.set_cons_succ, List.set_cons_zero]
  refine take_val (i := 24) (v := .bool true) (st_ups _ _) rfl rfl (by kernel_rfl) (fun _ _ _ h => h) (by rfl) (by intro x hx; go_simp; (first | done | exact rfl)) ?_
  simp only [List.set_cons_succ, List.set_cons_zero]
  refine take_call (i := 25) (f := 50) (args := #[.int .i64 (ti (18446744073709551615#64))]) (v := .agg #[.int .i64 (ti (18446744073709551615#64)), .int .i64 (ti (18446744073709551615#64))]) (st_ups _ _) rfl rfl (by kernel_rfl) (fun _ _ _ h => h) (by rfl) (fun x hx => by kernel_rfl) (by intro x hx; exact span_Sof_any 18446744073709551615#64 _) ?_
  simp only [List.set_cons_succ, List.set_cons_zero]
  refine take_val (i := 26) (v := .agg #[.int .i64 (-9223372036854775808), .int .i64 (-9223372036854775808)]) (st_ups _ _) rfl rfl (by kernel_rfl) (fun _ _ _ h => h) (by rfl) (by intro x hx; have f0 := hx.load 2 0 rfl rfl; have f1 := hx.load 2 1 rfl rfl; go_simp; (first | done | exact rfl)) ?_
  simp only [List.set_cons_succ, List.set_cons_zero]
  refine take_call (i := 27) (f := 62) (args := #[.agg #[.int .i64 (ti (18446744073709551615#64)), .int .i64 (ti (18446744073709551615#64))], .agg #[.int .i64 (ti (9223372036854775808#64)), .int .i64 (ti (9223372036854775808#64))]]) (v := .agg #[.int .i64 (ti ((span_Ssub (P.mk 18446744073709551615#64 18446744073709551615#64) (P.mk 9223372036854775808#64 9223372036854775808#64)).lo)), .int .i64 (ti ((span_Ssub (P.mk 18446744073709551615#64 18446744073709551615#64) (P.mk 9223372036854775808#64 9223372036854775808#64)).hi))]) (st_ups _ _) rfl rfl (by kernel_rfl) (fun _ _ _ h => h) (by rfl) (fun x hx => by kernel_rfl) (by intro x hx; exact span_Ssub_any (P.mk 18446744073709551615#64 18446744073709551615#64) (P.mk 9223372036854775808#64 9223372036854775808#64) _) ?_
  simp only [List.set_cons_succ, List.set_cons_zero]
  refine take_call (i := 28) (f := 50) (args := #[.int .i64 (ti (9223372036854775807#64))]) (v := .agg #[.int .i64 (ti (9223372036854775807#64)), .int .i64 (ti (9223372036854775807#64))]) (st_ups _ _) rfl rfl (by kernel_rfl) (fun _ _ _ h => h) (by rfl) (fun x hx => by kernel_rfl) (by intro x hx; exact span_Sof_any 9223372036854775807#64 _) ?_
  simp only [List.set_cons_succ, List.set_cons_zero]
  refine take_val (i := 29) (v := .bool true) (st_ups _ _) rfl rfl (by kernel_rfl) (fun _ _ _ h => h) (by rfl) (by intro x hx; go_simp; (first | done | exact (eqST (fun b => Result.ok (Next.value (Value.bool b)) x) ((span_Ssub (P.mk 18446744073709551615#64 18446744073709551615#64) (P.mk 9223372036854775808#64 9223372036854775808#64)).lo) ((span_Ssub (P.mk 18446744073709551615#64 18446744073709551615#64) (P.mk 9223372036854775808#64 9223372036854775808#64)).hi) 9223372036854775807#64 9223372036854775807#64).trans (congrArg (fun b => Result.ok (Next.value (Value.bool b)) x) ((show (eqS (span_Ssub (P.mk 18446744073709551615#64 18446744073709551615#64) (P.mk 9223372036854775808#64 9223372036854775808#64)) (P.mk 9223372036854775807#64 9223372036854775807#64)) = true by decide +kernel))))) ?_
  simp only [List.set_cons_succ, List.set_cons_zero]
  refine take_val (i := 30) (v := .bool true) (st_ups _ _) rfl rfl (by kernel_rfl) (fun _ _ _ h => h) (by rfl) (by intro x hx; go_simp; (first | done | exact rfl)) ?_
  simp only [List.set_cons_succ, List.set_cons_zero]
  refine take_val (i := 31) (v := .bool true) (st_ups _ _) rfl rfl (by kernel_rfl) (fun _ _ _ h => h) (by rfl) (by intro x hx; go_simp; (first | done | exact rfl)) ?_
  simp only [List.set_cons_succ, List.set_cons_zero]
  refine take_done (by kernel_rfl) ?_ _
  intro W81 hx
  replace HS := hid hx
  clear hx
  -- region 10
  go_upto_region 10 with fail
  refine lin_begin (St w [⟨k1, (law_SpanKnown_c0.map some), 24⟩, ⟨k2, (law_SpanKnown_c1.map some), 24⟩, ⟨k3, [some (.int .i64 (-9223372036854775808)), some (.int .i64 (-9223372036854775808))], 38⟩]) rfl HS.out ?_
  refine lin_val (i := 0) (v := .agg #[.int .u64 1, .int .u64 9223372036854775810]) rfl rfl (by rfl) (by intro x hx; go_simp; (first | done | exact rfl)) ?_
  simp only [List.set_cons_succ, List.set_cons_zero]
  refine lin_call (i := 1) (f := 77) (args := #[.agg #[.int .u64 (tn (1#64)), .int .u64 (tn (9223372036854775810#64))]]) (v := .agg #[.int .i64 (ti ((span_Sbounds (P.mk 1#64 9223372036854775810#64)).lo)), .int .i64 (ti ((span_Sbounds (P.mk 1#64 9223372036854775810#64)).hi))]) (st_ups _ _) rfl rfl (by rfl) (fun x hx => by kernel_rfl) (by intro x hx; exact span_Sbounds_any (P.mk 1#64 9223372036854775810#64) _) ?_
  simp only [List.set_cons_succ, List.set_cons_zero]
  refine lin_val (i := 2) (v := .agg #[.int .i64 (-9223372036854775807), .int .i64 3]) rfl rfl (by rfl) (by intro x hx; go_simp; (first | done | exact rfl)) ?_
  simp only [List.set_cons_succ, List.set_cons_zero]
  refine lin_val (i := 3) (v := .bool true) rfl rfl (by rfl) (by intro x hx; go_simp; (first | done | exact (eqST (fun b => Result.ok (Next.value (Value.bool b)) x) ((span_Sbounds (P.mk 1#64 9223372036854775810#64)).lo) ((span_Sbounds (P.mk 1#64 9223372036854775810#64)).hi) 9223372036854775809#64 3#64).trans (congrArg (fun b => Result.ok (Next.value (Value.bool b)) x) ((show (eqS (span_Sbounds (P.mk 1#64 9223372036854775810#64)) (P.mk 9223372036854775809#64 3#64)) = true by decide +kernel))))) ?_
  simp only [List.set_cons_succ, List.set_cons_zero]
  refine lin_val (i := 4) (v := .bool true) rfl rfl (by rfl) (by intro x hx; go_simp; (first | done | exact rfl)) ?_
  simp only [List.set_cons_succ, List.set_cons_zero]
  refine lin_val (i := 5) (v := .agg #[.int .i64 (-3), .int .i64 3]) rfl rfl (by rfl) (by intro x hx; go_simp; (first | done | exact rfl)) ?_
  simp only [List.set_cons_succ, List.set_cons_zero]
  refine lin_call (i := 6) (f := 64) (args := #[.agg #[.int .i64 (ti (18446744073709551613#64)), .int .i64 (ti (3#64))], .int .i64 (ti (1#64))]) (v := .agg #[.int .i64 (ti ((span_down_int64 (P.mk 18446744073709551613#64 3#64) 1#64).lo)), .int .i64 (ti ((span_down_int64 (P.mk 18446744073709551613#64 3#64) 1#64).hi))]) (st_ups _ _) rfl rfl (by rfl) (fun x hx => by kernel_rfl) (by intro x hx; exact span_Sarsh_any (P.mk 18446744073709551613#64 3#64) 1#64 _) ?_
  simp only [List.set_cons_succ, List.set_cons_zero]
  refine lin_val (i := 7) (v := .agg #[.int .i64 (-2), .int .i64 1]) rfl rfl (by rfl) (by intro x hx; go_simp; (first | done | exact rfl)) ?_
  simp only [List.set_cons_succ, List.set_cons_zero]
  refine lin_val (i := 8) (v := .bool true) rfl rfl (by rfl) (by intro x hx; go_simp; (first | done | exact (eqST (fun b => Result.ok (Next.value (Value.bool b)) x) ((span_down_int64 (P.mk 18446744073709551613#64 3#64) 1#64).lo) ((span_down_int64 (P.mk 18446744073709551613#64 3#64) 1#64).hi) 18446744073709551614#64 1#64).trans (congrArg (fun b => Result.ok (Next.value (Value.bool b)) x) ((show (eqS (span_down_int64 (P.mk 18446744073709551613#64 3#64) 1#64) (P.mk 18446744073709551614#64 1#64)) = true by decide +kernel))))) ?_
  simp only [List.set_cons_succ, List.set_cons_zero]
  refine lin_val (i := 9) (v := .bool true) rfl rfl (by rfl) (by intro x hx; go_simp; (first | done | exact rfl)) ?_
  simp only [List.set_cons_succ, List.set_cons_zero]
  refine lin_val (i := 10) (v := .bool true) rfl rfl (by rfl) (by intro x hx; go_simp; (first | done | exact rfl)) ?_
  simp only [List.set_cons_succ, List.set_cons_zero]
  refine lin_val (i := 11) (v := .agg #[.int .i64 (-2147483648), .int .i64 5]) rfl rfl (by rfl) (by intro x hx; go_simp; (first | done | exact rfl)) ?_
  simp only [List.set_cons_succ, List.set_cons_zero]
  refine lin_call (i := 12) (f := 66) (args := #[.agg #[.int .i64 (ti (18446744071562067968#64)), .int .i64 (ti (5#64))]]) (v := .agg #[.int .i64 (ti ((span_Scut (P.mk 18446744071562067968#64 5#64)).lo)), .int .i64 (ti ((span_Scut (P.mk 18446744071562067968#64 5#64)).hi))]) (st_ups _ _) rfl rfl (by rfl) (fun x hx => by kernel_rfl) (by intro x hx; exact span_Scut_any (P.mk 18446744071562067968#64 5#64) _) ?_
  simp only [List.set_cons_succ, List.set_cons_zero]
  refine lin_val (i := 13) (v := .agg #[.int .i64 (-2147483648), .int .i64 5]) rfl rfl (by rfl) (by intro x hx; go_simp; (first | done | exact rfl)) ?_
  simp only [List.set_cons_succ, List.set_cons_zero]
  refine lin_val (i := 14) (v := .bool true) rfl rfl (by rfl) (by intro x hx; go_simp; (first | done | exact (eqST (fun b => Result.ok (Next.value (Value.bool b)) x) ((span_Scut (P.mk 18446744071562067968#64 5#64)).lo) ((span_Scut (P.mk 18446744071562067968#64 5#64)).hi) 18446744071562067968#64 5#64).trans (congrArg (fun b => Result.ok (Next.value (Value.bool b)) x) ((show (eqS (span_Scut (P.mk 18446744071562067968#64 5#64)) (P.mk 18446744071562067968#64 5#64)) = true by decide +kernel))))) ?_
  simp only [List.set_cons_succ, List.set_cons_zero]
  refine lin_val (i := 15) (v := .bool true) rfl rfl (by rfl) (by intro x hx; go_simp; (first | done | exact rfl)) ?_
  simp only [List.set_cons_succ, List.set_cons_zero]
  refine lin_val (i := 16) (v := .bool true) rfl rfl (by rfl) (by intro x hx; go_simp; (first | done | exact rfl)) ?_
  simp only [List.set_cons_succ, List.set_cons_zero]
  refine lin_val (i := 17) (v := .agg #[.int .i64 0, .int .i64 2147483648]) rfl rfl (by rfl) (by intro x hx; go_simp; (first | done | exact rfl)) ?_
  simp only [List.set_cons_succ, List.set_cons_zero]
  refine lin_call (i := 18) (f := 66) (args := #[.agg #[.int .i64 (ti (0#64)), .int .i64 (ti (2147483648#64))]]) (v := .agg #[.int .i64 (ti ((span_Scut (P.mk 0#64 2147483648#64)).lo)), .int .i64 (ti ((span_Scut (P.mk 0#64 2147483648#64)).hi))]) (st_ups _ _) rfl rfl (by rfl) (fun x hx => by kernel_rfl) (by intro x hx; exact span_Scut_any (P.mk 0#64 2147483648#64) _) ?_
  simp only [List.set_cons_succ, List.set_cons_zero]
  refine lin_val (i := 19) (v := .agg #[.int .i64 (-2147483648), .int .i64 2147483647]) rfl rfl (by rfl) (by intro x hx; go_simp; (first | done | exact rfl)) ?_
  simp only [List.set_cons_succ, List.set_cons_zero]
  refine lin_val (i := 20) (v := .bool true) rfl rfl (by rfl) (by intro x hx; go_simp; (first | done | exact (eqST (fun b => Result.ok (Next.value (Value.bool b)) x) ((span_Scut (P.mk 0#64 2147483648#64)).lo) ((span_Scut (P.mk 0#64 2147483648#64)).hi) 18446744071562067968#64 2147483647#64).trans (congrArg (fun b => Result.ok (Next.value (Value.bool b)) x) ((show (eqS (span_Scut (P.mk 0#64 2147483648#64)) (P.mk 18446744071562067968#64 2147483647#64)) = true by decide +kernel))))) ?_
  simp only [List.set_cons_succ, List.set_cons_zero]
  refine lin_val (i := 21) (v := .bool true) rfl rfl (by rfl) (by intro x hx; go_simp; (first | done | exact rfl)) ?_
  simp only [List.set_cons_succ, List.set_cons_zero]
  refine lin_val (i := 22) (v := .bool true) rfl rfl (by rfl) (by intro x hx; go_simp; (first | done | exact rfl)) ?_
  simp only [List.set_cons_succ, List.set_cons_zero]
  refine lin_done ?_
  intro W82 hx
  replace HS := hid hx
  clear hx
  -- region 11
  go_upto_region 11 with fail
  refine lin_begin (St w [⟨k1, (law_SpanKnown_c0.map some), 24⟩, ⟨k2, (law_SpanKnown_c1.map some), 24⟩, ⟨k3, [some (.int .i64 (-9223372036854775808)), some (.int .i64 (-9223372036854775808))], 38⟩]) rfl HS.out ?_
  refine lin_call (i := 0) (f := 79) (args := #[.int .u64 (tn (1#64)), .int .u64 (tn (2#64))]) (v := .agg #[.int .u64 (tn ((fromP 1#64 2#64).lo)), .int .u64 (tn ((fromP 1#64 2#64).hi))]) (st_ups _ _) rfl rfl (by rfl) (fun x hx => by kernel_rfl) (by intro x hx; exact fromP_any 1#64 2#64 _) ?_
  simp only [List.set_cons_succ, List.set_cons_zero]
  refine lin_call (i := 1) (f := 79) (args := #[.int .u64 (tn (3#64)), .int .u64 (tn (4#64))]) (v := .agg #[.int .u64 (tn ((fromP 3#64 4#64).lo)), .int .u64 (tn ((fromP 3#64 4#64).hi))]) (st_ups _ _) rfl rfl (by rfl) (fun x hx => by kernel_rfl) (by intro x hx; exact fromP_any 3#64 4#64 _) ?_
  simp only [List.set_cons_succ, List.set_cons_zero]
  refine lin_call (i := 2) (f := 13) (args := #[.agg #[.int .u64 (tn ((fromP 1#64 2#64).lo)), .int .u64 (tn ((fromP 1#64 2#64).hi))], .agg #[.int .u64 (tn ((fromP 3#64 4#64).lo)), .int .u64 (tn ((fromP 3#64 4#64).hi))]]) (v := .tuple #[.agg #[.int .u64 (tn (((span_meet_uint64 (fromP 1#64 2#64) (fromP 3#64 4#64)).1).lo)), .int .u64 (tn (((span_meet_uint64 (fromP 1#64 2#64) (fromP 3#64 4#64)).1).hi))], .bool ((span_meet_uint64 (fromP 1#64 2#64) (fromP 3#64 4#64)).2)]) (st_ups _ _) rfl rfl (by rfl) (fun x hx => by kernel_rfl) (by intro x hx; exact span_Meet_any (fromP 1#64 2#64) (fromP 3#64 4#64) _) ?_
  simp only [List.set_cons_succ, List.set_cons_zero]
  refine lin_val (i := 3) (v := .tuple #[.agg #[.int .u64 (tn (((span_meet_uint64 (fromP 1#64 2#64) (fromP 3#64 4#64)).1).lo)), .int .u64 (tn (((span_meet_uint64 (fromP 1#64 2#64) (fromP 3#64 4#64)).1).hi))], .bool ((span_meet_uint64 (fromP 1#64 2#64) (fromP 3#64 4#64)).2)]) rfl rfl (by rfl) (by intro x hx; go_simp; (first | done | exact rfl)) ?_
  simp only [List.set_cons_succ, List.set_cons_zero]
  refine lin_val (i := 4) (v := .agg #[.int .u64 (tn (((span_meet_uint64 (fromP 1#64 2#64) (fromP 3#64 4#64)).1).lo)), .int .u64 (tn (((span_meet_uint64 (fromP 1#64 2#64) (fromP 3#64 4#64)).1).hi))]) rfl rfl (by rfl) (by intro x hx; go_simp; (first | done | exact rfl)) ?_
  simp only [List.set_cons_succ, List.set_cons_zero]
  refine lin_val (i := 5) (v := .bool ((span_meet_uint64 (fromP 1#64 2#64) (fromP 3#64 4#64)).2)) rfl rfl (by rfl) (by intro x hx; go_simp; (first | done | exact rfl)) ?_
  simp only [List.set_cons_succ, List.set_cons_zero]
  refine lin_new (i := 6) rfl rfl (by rfl) [.int .u64 0, .int .u64 0] 24 (fun k => .pointer (some ⟨k, 0, none⟩)) [some (.int .u64 0), some (.int .u64 0)] (lessC_refl _) (by intro x hx; go_simp; (first | done | exact rfl)) (fun k4 => ?_)
  simp only [List.set_cons_succ, List.set_cons_zero]
  refine lin_store (i := 7) (St w [⟨k1, (law_SpanKnown_c0.map some), 24⟩, ⟨k2, (law_SpanKnown_c1.map some), 24⟩, ⟨k3, [some (.int .i64 (-9223372036854775808)), some (.int .i64 (-9223372036854775808))], 38⟩, ⟨k4, [some (.int .u64 (tn (((span_meet_uint64 (fromP 1#64 2#64) (fromP 3#64 4#64)).1).lo))), some (.int .u64 (tn (((span_meet_uint64 (fromP 1#64 2#64) (fromP 3#64 4#64)).1).hi)))], 24⟩]) rfl rfl (by rfl) (fun x => ((x.setCell ⟨k4, 0, none⟩ (.int .u64 (tn (((span_meet_uint64 (fromP 1#64 2#64) (fromP 3#64 4#64)).1).lo)))).setCell ⟨k4, 1, none⟩ (.int .u64 (tn (((span_meet_uint64 (fromP 1#64 2#64) (fromP 3#64 4#64)).1).hi))))) (by intro x hx; obtain ⟨u0, z0⟩ := hx.has 3 0 rfl (by simp); have q0 := hx.soft 3 0 rfl; obtain ⟨u1, z1⟩ := hx.has 3 1 rfl (by simp); have q1 := hx.soft 3 1 rfl; go_simp; (first | done | rfl)) (fun x hx => ((hx.put 3 0 (.int .u64 (tn (((span_meet_uint64 (fromP 1#64 2#64) (fromP 3#64 4#64)).1).lo))) rfl).put 3 1 (.int .u64 (tn (((span_meet_uint64 (fromP 1#64 2#64) (fromP 3#64 4#64)).1).hi))) rfl)) ?_
  refine lin_val (i := 8) (v := .bool ((span_meet_uint64 (fromP 1#64 2#64) (fromP 3#64 4#64)).2)) rfl rfl (by rfl) (by intro x hx; go_simp; (first | done | exact rfl)) ?_
  simp only [List.set_cons_succ, List.set_cons_zero]
  refine lin_done ?_
  intro W83 hx
  replace HS := hid hx
  clear hx
  -- region 12
  go_upto_region 12 with fail
  refine lin_begin (St w [⟨k1, (law_SpanKnown_c0.map some), 24⟩, ⟨k2, (law_SpanKnown_c1.map some), 24⟩, ⟨k3, [some (.int .i64 (-9223372036854775808)), some (.int .i64 (-9223372036854775808))], 38⟩, ⟨k4, [some (.int .u64 (tn (((span_meet_uint64 (fromP 1#64 2#64) (fromP 3#64 4#64)).1).lo))), some (.int .u64 (tn (((span_meet_uint64 (fromP 1#64 2#64) (fromP 3#64 4#64)).1).hi)))], 24⟩]) rfl HS.out ?_
  refine lin_val (i := 0) (v := .bool true) rfl rfl (by rfl) (by intro x hx; go_simp; (first | done | exact rfl)) ?_
  simp only [List.set_cons_succ, List.set_cons_zero]
  refine lin_val (i := 1) (v := .bool true) rfl rfl (by rfl) (by intro x hx; go_simp; (first | done | exact rfl)) ?_
  simp only [List.set_cons_succ, List.set_cons_zero]
  refine lin_val (i := 2) (v := .bool true) rfl rfl (by rfl) (by intro x hx; go_simp; (first | done | exact rfl)) ?_
  simp only [List.set_cons_succ, List.set_cons_zero]
  refine lin_val (i := 3) (v := .bool true) rfl rfl (by rfl) (by intro x hx; go_simp; (first | done | exact rfl)) ?_
  simp only [List.set_cons_succ, List.set_cons_zero]
  refine lin_val (i := 4) (v := .bool true) rfl rfl (by rfl) (by intro x hx; go_simp; (first | done | exact rfl)) ?_
  simp only [List.set_cons_succ, List.set_cons_zero]
  refine lin_val (i := 5) (v := .bool ((span_meet_uint64 (fromP 1#64 2#64) (fromP 3#64 4#64)).2)) rfl rfl (by rfl) (by intro x hx; go_simp; (first | done | exact rfl)) ?_
  simp only [List.set_cons_succ, List.set_cons_zero]
  refine lin_val (i := 6) (v := .bool true) rfl rfl (by rfl) (by intro x hx; go_simp; (first | done | (first | exact (show (!((span_meet_uint64 (fromP 1#64 2#64) (fromP 3#64 4#64)).2)) = true by decide +kernel) | exact eq_of_beq ((show (!((span_meet_uint64 (fromP 1#64 2#64) (fromP 3#64 4#64)).2)) = true by decide +kernel)) | exact congrArg _ ((show (!((span_meet_uint64 (fromP 1#64 2#64) (fromP 3#64 4#64)).2)) = true by decide +kernel)) | (rw [(show (!((span_meet_uint64 (fromP 1#64 2#64) (fromP 3#64 4#64)).2)) = true by decide +kernel)]; done) | ((first | rfl | skip); rw [(show (!((span_meet_uint64 (fromP 1#64 2#64) (fromP 3#64 4#64)).2)) = true by decide +kernel)]) | exact congrArg tn (eq_of_beq ((show (!((span_meet_uint64 (fromP 1#64 2#64) (fromP 3#64 4#64)).2)) = true by decide +kernel))) | exact congrArg ti (eq_of_beq ((show (!((span_meet_uint64 (fromP 1#64 2#64) (fromP 3#64 4#64)).2)) = true by decide +kernel))) | exact congrArg tn (eq_of_bne ((show (!((span_meet_uint64 (fromP 1#64 2#64) (fromP 3#64 4#64)).2)) = true by decide +kernel))) | simpa using ((show (!((span_meet_uint64 (fromP 1#64 2#64) (fromP 3#64 4#64)).2)) = true by decide +kernel))))) ?_
  simp only [List.set_cons_succ, List.set_cons_zero]
  refine lin_val (i := 7) (v := .bool true) rfl rfl (by rfl) (by intro x hx; go_simp; (first | done | exact rfl)) ?_
  simp only [List.set_cons_succ, List.set_cons_zero]
  refine lin_val (i := 8) (v := .bool true) rfl rfl (by rfl) (by intro x hx; go_simp; (first | done | exact rfl)) ?_
  simp only [List.set_cons_succ, List.set_cons_zero]
  refine lin_val (i := 9) (v := .agg #[.int .u64 (tn (((span_meet_uint64 (fromP 1#64 2#64) (fromP 3#64 4#64)).1).lo)), .int .u64 (tn (((span_meet_uint64 (fromP 1#64 2#64) (fromP 3#64 4#64)).1).hi))]) rfl rfl (by rfl) (by intro x hx; have f0 := hx.load 3 0 rfl rfl; have f1 := hx.load 3 1 rfl rfl; go_simp; (first | done | exact rfl)) ?_
  simp only [List.set_cons_succ, List.set_cons_zero]
  refine lin_val (i := 10) (v := .agg #[.int .u64 0, .int .u64 0]) rfl rfl (by rfl) (by intro x hx; go_simp; (first | done | exact rfl)) ?_
  simp only [List.set_cons_succ, List.set_cons_zero]
  refine lin_val (i := 11) (v := .bool true) rfl rfl (by rfl) (by intro x hx; go_simp; (first | done | exact (eqPT (fun b => Result.ok (Next.value (Value.bool b)) x) (((span_meet_uint64 (fromP 1#64 2#64) (fromP 3#64 4#64)).1).lo) (((span_meet_uint64 (fromP 1#64 2#64) (fromP 3#64 4#64)).1).hi) 0#64 0#64).trans (congrArg (fun b => Result.ok (Next.value (Value.bool b)) x) ((show (eqP ((span_meet_uint64 (fromP 1#64 2#64) (fromP 3#64 4#64)).1) (P.mk 0#64 0#64)) = true by decide +kernel))))) ?_
  simp only [List.set_cons_succ, List.set_cons_zero]
  refine lin_val (i := 12) (v := .bool true) rfl rfl (by rfl) (by intro x hx; go_simp; (first | done | exact rfl)) ?_
  simp only [List.set_cons_succ, List.set_cons_zero]
  refine lin_val (i := 13) (v := .bool true) rfl rfl (by rfl) (by intro x hx; go_simp; (first | done | exact rfl)) ?_
  simp only [List.set_cons_succ, List.set_cons_zero]
  refine lin_call (i := 14) (f := 17) (args := #[]) (v := .agg #[.int .u64 (tn (0#64)), .int .u64 (tn (18446744073709551615#64))]) (st_ups _ _) rfl rfl (by rfl) (fun x hx => by kernel_rfl) (by intro x hx; exact span_All_any _) ?_
  simp only [List.set_cons_succ, List.set_cons_zero]
  refine lin_call (i := 15) (f := 70) (args := #[.agg #[.int .u64 (tn (0#64)), .int .u64 (tn (18446744073709551615#64))]]) (v := .agg #[.int .u64 (tn ((P.mk 0#64 18446744073709551615#64).lo &&& ~~~(onesV ((P.mk 0#64 18446744073709551615#64).lo ^^^ (P.mk 0#64 18446744073709551615#64).hi)))), .int .u64 (tn (onesV ((P.mk 0#64 18446744073709551615#64).lo ^^^ (P.mk 0#64 18446744073709551615#64).hi)))]) (st_ups _ _) rfl rfl (by rfl) (fun x hx => by kernel_rfl) (by intro x hx; exact span_Bits_any (P.mk 0#64 18446744073709551615#64) _) ?_
  simp only [List.set_cons_succ, List.set_cons_zero]
  refine lin_val (i := 16) (v := .agg #[.int .u64 0, .int .u64 18446744073709551615]) rfl rfl (by rfl) (by intro x hx; go_simp; (first | done | exact rfl)) ?_
  simp only [List.set_cons_succ, List.set_cons_zero]
  refine lin_val (i := 17) (v := .bool true) rfl rfl (by rfl) (by intro x hx; go_simp; (first | done | exact (eqPT (fun b => Result.ok (Next.value (Value.bool b)) x) ((P.mk 0#64 18446744073709551615#64).lo &&& ~~~(onesV ((P.mk 0#64 18446744073709551615#64).lo ^^^ (P.mk 0#64 18446744073709551615#64).hi))) (onesV ((P.mk 0#64 18446744073709551615#64).lo ^^^ (P.mk 0#64 18446744073709551615#64).hi)) 0#64 18446744073709551615#64).trans (congrArg (fun b => Result.ok (Next.value (Value.bool b)) x) ((show (eqP (P.mk ((P.mk 0#64 18446744073709551615#64).lo &&& ~~~(onesV ((P.mk 0#64 18446744073709551615#64).lo ^^^ (P.mk 0#64 18446744073709551615#64).hi))) (onesV ((P.mk 0#64 18446744073709551615#64).lo ^^^ (P.mk 0#64 18446744073709551615#64).hi))) (P.mk 0#64 18446744073709551615#64)) = true by decide +kernel))))) ?_
  simp only [List.set_cons_succ, List.set_cons_zero]
  refine lin_val (i := 18) (v := .bool true) rfl rfl (by rfl) (by intro x hx; go_simp; (first | done | exact rfl)) ?_
  simp only [List.set_cons_succ, List.set_cons_zero]
  refine lin_val (i := 19) (v := .bool true) rfl rfl (by rfl) (by intro x hx; go_simp; (first | done | exact rfl)) ?_
  simp only [List.set_cons_succ, List.set_cons_zero]
  refine lin_call (i := 20) (f := 12) (args := #[]) (v := .bool true) (st_ups _ _) rfl rfl (by rfl) (fun x hx => by kernel_rfl) (by intro x hx; exact law_known_any _) ?_
  simp only [List.set_cons_succ, List.set_cons_zero]
  refine lin_val (i := 21) (v := .bool true) rfl rfl (by rfl) (by intro x hx; go_simp; (first | done | exact rfl)) ?_
  simp only [List.set_cons_succ, List.set_cons_zero]
  refine lin_val (i := 22) (v := .bool true) rfl rfl (by rfl) (by intro x hx; go_simp; (first | done | exact rfl)) ?_
  simp only [List.set_cons_zero]
  refine lin_done ?_
  intro W84 hx
  replace HS := hid hx
  clear hx
  go_wp2
  exact bodyPost_ret (v := .bool true) (by simp [results, Try.results10, go_sem]) rfl ⟨rfl, HS.out.below⟩
end Go.Proofs.Ytoojdndfjfmemaa.Sp
