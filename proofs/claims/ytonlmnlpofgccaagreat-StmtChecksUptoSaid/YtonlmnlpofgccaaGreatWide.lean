/-
  What the texts of distributions import here.
-/
import Derived.Test.YtonlmnlpofgccaaGreatBase
namespace Go.Proofs.YtonlmnlpofgccaaGreat
end Go.Proofs.YtonlmnlpofgccaaGreat
