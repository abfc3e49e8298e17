/-
  What the texts of distributions import here.
-/
import Derived.Test.YtonlmnlpofgccaaBase
namespace Go.Proofs.Ytonlmnlpofgccaa
end Go.Proofs.Ytonlmnlpofgccaa
