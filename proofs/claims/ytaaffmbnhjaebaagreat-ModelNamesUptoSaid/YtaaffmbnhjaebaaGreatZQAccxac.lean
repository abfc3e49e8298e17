/-
  Parts of this proof: What a model that is accepted has. The reference's lists of the names before.
-/
import Derived.Test.YtaaffmbnhjaebaaGreatZQRnm
namespace Go.Proofs.YtaaffmbnhjaebaaGreat.Md
set_option linter.unusedVariables false
theorem kinds_names (s : Ste) : ((kinds s).map fun k => k.2.map (·.1)) = names s := by
 have ht : ∀ l : List ByteArray, (l.map txtP).map (·.1) = l := fun l => by
  rw [List.map_map]; exact List.map_id l
 unfold kinds names
 simp only [List.map_cons, List.map_nil, ht, List.map_map]
 rfl
end Go.Proofs.YtaaffmbnhjaebaaGreat.Md
namespace Go.Proofs.YtaaffmbnhjaebaaGreat.Md
open Go.RowKit
open Go.Proofs.YtaaffmbnhjaebaaGreat.Na (Strs)
set_option maxHeartbeats 4000000
set_option linter.unusedVariables false
theorem Bfo.strs {U W : World} {v : Value} {acc : List ByteArray} (h : Bfo U v acc W) (hn : acc.length ≤ 1000000) : ∃ p m c, v = .slice p m c ∧ ∀ W2, Below W.heap.size W W2 → Strs W2 p m acc := by
 obtain ⟨p, c, hv, hr⟩ := h.own.rw RTxt.map sTxt hn
 exact ⟨p, _, c, hv, fun W2 hb => (hr.on RTxt.map hb).strs⟩
end Go.Proofs.YtaaffmbnhjaebaaGreat.Md
