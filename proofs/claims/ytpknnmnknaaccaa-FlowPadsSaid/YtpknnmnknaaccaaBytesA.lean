/-
  Contracts of the bytes' functions: fits, there, Get.
-/
import Derived.Test.YtpknnmnknaaccaaRows
import Derived.Test.YtpknnmnknaaccaaNumC
import Derived.WalkKit
import Derived.WalkSpells
import Derived.WalkLawsBesides
namespace Go.Proofs.Ytpknnmnknaaccaa.Bytes
open Go.RowKit Go.Proofs.Ytpknnmnknaaccaa.Num
end Go.Proofs.Ytpknnmnknaaccaa.Bytes
