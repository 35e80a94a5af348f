/-
  The document's Get, as the law's walk is told of it.
-/
import Derived.Test.YtccjfnkneiggcaaLawGets
import Derived.Test.YtccjfnkneiggcaaRefGet
namespace Go.Proofs.Ytccjfnkneiggcaa.Insn
theorem rget : RGet := fun a len cap zs w h1 h2 h3 h4 => rget_any a len cap zs w h1 h2 h3 h4
end Go.Proofs.Ytccjfnkneiggcaa.Insn
