/-
  The laws' scalars about a number.
-/
import Derived.Deep.DeepCutAuto
import Derived.Test.YtmcapfbkedfdkaaGreatDoorScF
import Derived.Test.YtmcapfbkedfdkaaGreatDoorScI
import Derived.Test.YtmcapfbkedfdkaaGreatDoorIf
namespace Go.Proofs.YtmcapfbkedfdkaaGreatDoor.Sp
open Go.RowKit Go.Proofs.YtmcapfbkedfdkaaGreatDoor.Num Go.Proofs.YtmcapfbkedfdkaaGreatDoor.Up
structure Pr where
 V : BitVec 64
 W : BitVec 64
 Mask : BitVec 64
 Other : BitVec 64
 Down : BitVec 64
 Up : BitVec 64
 Less : BitVec 64
 More : BitVec 64
def law_around (x0 : BitVec 64) (x1 : BitVec 64) (x2 : BitVec 64) (x3 : BitVec 64)  : Sc :=
 bif ((x2 % 2#64) == 1#64) then (bif ltI x0 13835058055282163712#64 then (bif (!((scalar_Norm (Sc.mk (P.mk (x0 &&& ~~~x1) x1) (P.mk (x0 - (minU x2 x0)) (x0 + (minU x3 (18446744073709551615#64 - x0)))) (P.mk 9223372036854775808#64 x0))).2)) then (scalar_All) else ((scalar_Norm (Sc.mk (P.mk (x0 &&& ~~~x1) x1) (P.mk (x0 - (minU x2 x0)) (x0 + (minU x3 (18446744073709551615#64 - x0)))) (P.mk 9223372036854775808#64 x0))).1)) else (bif (!((scalar_Norm (Sc.mk (P.mk (x0 &&& ~~~x1) x1) (P.mk (x0 - (minU x2 x0)) (x0 + (minU x3 (18446744073709551615#64 - x0)))) (P.mk (maxI (x0 - (x2 % 1000#64)) 9223372036854775808#64) x0))).2)) then (scalar_All) else ((scalar_Norm (Sc.mk (P.mk (x0 &&& ~~~x1) x1) (P.mk (x0 - (minU x2 x0)) (x0 + (minU x3 (18446744073709551615#64 - x0)))) (P.mk (maxI (x0 - (x2 % 1000#64)) 9223372036854775808#64) x0))).1))) else (bif (!((scalar_Norm (Sc.mk (P.mk (x0 &&& ~~~x1) x1) (P.mk (x0 - (minU x2 x0)) (x0 + (minU x3 (18446744073709551615#64 - x0)))) (P.mk 9223372036854775808#64 9223372036854775807#64))).2)) then (scalar_All) else ((scalar_Norm (Sc.mk (P.mk (x0 &&& ~~~x1) x1) (P.mk (x0 - (minU x2 x0)) (x0 + (minU x3 (18446744073709551615#64 - x0)))) (P.mk 9223372036854775808#64 9223372036854775807#64))).1))
end Go.Proofs.YtmcapfbkedfdkaaGreatDoor.Sp
