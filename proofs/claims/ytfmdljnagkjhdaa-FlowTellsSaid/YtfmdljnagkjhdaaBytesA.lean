/-
  Contracts of the bytes' functions: fits, there, Get.
-/
import Derived.Test.YtfmdljnagkjhdaaRows
import Derived.Test.YtfmdljnagkjhdaaNumC
import Derived.WalkKit
import Derived.WalkSpells
import Derived.WalkLawsBesides
namespace Go.Proofs.Ytfmdljnagkjhdaa.Bytes
open Go.RowKit Go.Proofs.Ytfmdljnagkjhdaa.Num
end Go.Proofs.Ytfmdljnagkjhdaa.Bytes
