/-
  Parts of this proof: Rows of records that a call made. The contracts of place, Kind and Index. The reference's lists of the names before.
-/
import Derived.Test.YtaaffmbnhjaebaaGreatZQRnm
namespace Go.Proofs.YtaaffmbnhjaebaaGreat.Md
open Go.RowKit
set_option maxHeartbeats 2000000
set_option linter.unusedVariables false
section
variable {α : Type} {LT T : TypeId} {k : Nat} {R : Rec α} {base : Nat} {w w2 : World} {v : Value} {l l2 : List α}
theorem OwnL.made (hb : base ≤ w.heap.size) : OwnL T k R base (w.alloc (.cells #[] T)) (.slice (some ⟨w.heap.size, 0, none⟩) 0 0) ([] : List α) := ⟨[], rfl, fun i h => absurd h (Nat.not_lt_zero _), World.ownsRow_made w #[] 0 hb (Nat.zero_le _) (by simp)⟩
end
end Go.Proofs.YtaaffmbnhjaebaaGreat.Md
namespace Go.Proofs.YtaaffmbnhjaebaaGreat.Md
open Go.RowKit
set_option maxHeartbeats 8000000
set_option linter.unusedVariables false
set_option linter.unusedSimpArgs false
theorem At.drew {W : World} {B o : Nat} {c : Array Value} (h : At W B o c) : At W.drew B o c := h
end Go.Proofs.YtaaffmbnhjaebaaGreat.Md
namespace Go.Proofs.YtaaffmbnhjaebaaGreat.Md
open Go.RowKit
set_option maxHeartbeats 4000000
set_option linter.unusedVariables false
theorem Bfo.app {U W W3 : World} {v : Value} {acc : List ByteArray} (h : Bfo U v acc W) (h3 : Below W.heap.size W W3) (x : ByteArray) (hn : acc.length + 1 ≤ 1000000) :
 ∃ (v' : Value) (w' : World), (Builtin.append_ #[37, 37] 37 #[v, .slice (some ⟨W3.heap.size, 0, none⟩) 1 1]).run Tryz.prog (W3.alloc (.cells #[.string x] 9)) = .ok v' w' ∧ Bfo U v' (acc ++ [x]) w' := by
 have h4 : Below W.heap.size W (W3.alloc (.cells #[.string x] 9)) := bl
 have ho := h.own.on RTxt.map h4 h.below.size
 have hs : U.heap.size ≤ (W3.alloc (.cells #[.string x] 9)).heap.size := Nat.le_trans h.below.size h4.size
 obtain ⟨v2, w2, hrun, ho2, hg2⟩ := OwnL.app1 ho (a := ⟨W3.heap.size, 0, none⟩) x (by go_simp) 1 hs hn
 exact ⟨v2, w2, hrun, ho2, ho.below hg2 (h.below.trans (h4.mono h.below.size)) (Nat.le_refl _) hs⟩
end Go.Proofs.YtaaffmbnhjaebaaGreat.Md
