/-
  Parts of this proof: Mathematics of statements. What a model that is accepted has.
-/
import Derived.Test.YtaaffmbnhjaebaaGreatZDCheck2
namespace Go.Proofs.YtaaffmbnhjaebaaGreat.Sm
set_option linter.unusedVariables false
theorem orE_zero {a b : Int} : orE a b = 0 ↔ a = 0 ∧ b = 0 := by unfold orE; split <;> simp_all
end Go.Proofs.YtaaffmbnhjaebaaGreat.Sm
namespace Go.Proofs.YtaaffmbnhjaebaaGreat.Md
open Go.Proofs.YtaaffmbnhjaebaaGreat.Na (bs chk)
open Go.Proofs.YtaaffmbnhjaebaaGreat.Sm (orE orE_zero)
set_option linter.unusedVariables false
theorem step_ok {acc : List ByteArray} {p : ByteArray × Int} (h : (stepN acc p).1 = 0) : (stepN acc p).2 = acc ++ [p.1] ∧ p.2 = 0 ∧ ¬ p.1 ∈ acc := by
 obtain ⟨h1, h2⟩ := orE_zero.1 (show orE (decE acc p.1) p.2 = 0 from h)
 obtain ⟨h4, h5⟩ := orE_zero.1 (show orE (chk (bs p.1)) (if p.1 ∈ acc then 4 else 0) = 0 from h1)
 refine ⟨if_pos h1, h2, fun hm => ?_⟩
 rw [if_pos hm] at h5
 exact absurd h5 (by decide)
end Go.Proofs.YtaaffmbnhjaebaaGreat.Md
