/-
  Parts of this proof: The map of the links that were met.
-/
import Derived.Test.YtaaffmbnhjaebaaGreatZQScp
import Derived.DeepKeys4
namespace Go.Proofs.YtaaffmbnhjaebaaGreat.Md
open Go.RowKit Go.Maps
open Go.Proofs.YtaaffmbnhjaebaaGreat.Na (bs bs_len)
set_option maxHeartbeats 2000000
set_option maxRecDepth 100000
set_option linter.unusedVariables false
theorem laidOutP : laidOutB Tryz.prog = true := by kernel_rfl
theorem rowP : (115 : TypeId) < Tryz.prog.types.size := of_decide_eq_true (by kernel_rfl)
theorem wideP : (match Tryz.prog.underlying 115 with | some (.array _ _) | some (.struct _) => true | _ => false) = true := by rw [Tryz.underlying115]
theorem lawK : Keyed Tryz.prog 115 := Keyed.of_law (deep_law_laid laidOutP (m := 2) (by omega) rowP (by kernel_rfl) wideP)
theorem ktP : Tryz.prog.keyType 115 = true := by kernel_rfl
theorem tsP : ∃ n, Tryz.prog.types.size + 1 = n + 1 + 1 := ⟨Tryz.prog.types.size - 1, by have h : (115 : Nat) < Tryz.prog.types.size := rowP; omega⟩
theorem cosP : Tryz.prog.cellsOf 9 = 1 := by kernel_rfl
theorem coP : Tryz.prog.cellsOf 115 = 2 := by kernel_rfl
def keyP (p : List UInt8 × List UInt8) : Lit := .string (keyBytes [.string p.1, .string p.2])
theorem key_pair {a b : ByteArray} (ha : a.size ≤ 1000000000) (hb : b.size ≤ 1000000000) : keyOf Tryz.prog 115 (.agg #[.string a, .string b]) = some (keyP (bs a, bs b)) := by
 obtain ⟨n, hn⟩ := tsP
 have hf : (Value.agg #[.string a, .string b]).formed Tryz.prog 115 = true := by
  simp [Value.formed, Tryz.underlying115, coP]
 unfold keyOf
 rw [Tryz.underlying115, ktP, hf, hn]
 have h1 : a.size ≤ maxLen := by unfold maxLen; omega
 have h2 : b.size ≤ maxLen := by unfold maxLen; omega
 simp [Program.keyLits, Tryz.underlying115, Tryz.underlying9, coP, cosP, Value.cells, List.range_succ, h1, h2]
 rfl
theorem keyP_lit (p : List UInt8 × List UInt8) : WideAt.IsKeyLit (keyP p) := by unfold keyP; simp [WideAt.IsKeyLit]
def Shr (p : List UInt8 × List UInt8) : Prop := p.1.length ≤ 1000000000 ∧ p.2.length ≤ 1000000000
theorem keyP_inj {p q : List UInt8 × List UInt8} (hp : Shr p) (hq : Shr q) (h : keyP p = keyP q) : p = q := by
 have e : ∀ l : List UInt8, bs ⟨l.toArray⟩ = l := fun l => by unfold bs; simp
 have k1 := key_pair (a := ⟨p.1.toArray⟩) (b := ⟨p.2.toArray⟩) (by have := hp.1; show p.1.toArray.size ≤ _; simpa using this) (by have := hp.2; show p.2.toArray.size ≤ _; simpa using this)
 have k2 := key_pair (a := ⟨q.1.toArray⟩) (b := ⟨q.2.toArray⟩) (by have := hq.1; show q.1.toArray.size ≤ _; simpa using this) (by have := hq.2; show q.2.toArray.size ≤ _; simpa using this)
 rw [e, e] at k1 k2
 have h3 := lawK.inj k1 (by rw [k2]; show some (keyP q) = some (keyP p); rw [h])
 injection h3 with h3
 have h4 := congrArg Array.toList h3
 simp only [List.cons.injEq, and_true] at h4
 obtain ⟨h5, h6⟩ := h4
 injection h5 with h5
 injection h6 with h6
 have g1 := congrArg bs h5
 have g2 := congrArg bs h6
 rw [e, e] at g1 g2
 exact Prod.ext g1 g2
def Pcp (b : Nat) (acc : List (List UInt8 × List UInt8)) (w : World) : Prop := w.ownsMap Tryz.prog 115 (plainElem Tryz.prog 4) b acc.length (Da (acc.map keyP)) ∧ ∀ p ∈ acc, Shr p
theorem Pcp.on {b : Nat} {acc : List (List UInt8 × List UInt8)} {w w2 : World} (h : Pcp b acc w) (hb : Below w.heap.size w w2) : Pcp b acc w2 := ⟨own_kept h.1 hb, h.2⟩
theorem Pcp.lt {b : Nat} {acc : List (List UInt8 × List UInt8)} {w : World} (h : Pcp b acc w) : b < w.heap.size := World.ownsMap.lt h.1
theorem keysP_lit (acc : List (List UInt8 × List UInt8)) : ∀ k ∈ acc.map keyP, WideAt.IsKeyLit k := fun k hk => by obtain ⟨y, -, rfl⟩ := List.mem_map.1 hk; exact keyP_lit y
theorem mem_keyP {p : List UInt8 × List UInt8} {acc : List (List UInt8 × List UInt8)} (hp : Shr p) (ha : ∀ q ∈ acc, Shr q) : keyP p ∈ acc.map keyP ↔ p ∈ acc := by
 rw [List.mem_map]
 constructor
 · rintro ⟨y, hy, e⟩; rw [← keyP_inj (ha y hy) hp e]; exact hy
 · intro h; exact ⟨p, h, rfl⟩
theorem look_pair {w : World} {b : Nat} {acc : List (List UInt8 × List UInt8)} {x y : ByteArray} (h : Pcp b acc w) (hx : x.size ≤ 1000000000) (hy : y.size ≤ 1000000000) :
 (Instr.lookup 113 (.map (some b)) (.agg #[.string x, .string y]) false).run Tryz.prog w = .ok (.bool (decide ((bs x, bs y) ∈ acc))) w := by
 obtain ⟨v, ps, hrun, hv⟩ := World.ownsMap.lookup (t := 113) h.1 lawK Tryz.underlying113 (zero_bool w) (plainElem_bool Tryz.underlying4 false) (key_pair hx hy)
 obtain ⟨c, rfl, hc⟩ := plain_bool hv
 simp only [Prod.mk.injEq] at hc
 have := Da_look (keysP_lit acc) hc.1
 rw [mem_keyP ⟨by rw [bs_len]; exact hx, by rw [bs_len]; exact hy⟩ h.2] at this
 rw [hrun]
 by_cases g : (bs x, bs y) ∈ acc
 · rw [decide_eq_true g, this.2 g]
 · rw [decide_eq_false g]
   cases c with
   | true => exact absurd (this.1 rfl) g
   | false => rfl
end Go.Proofs.YtaaffmbnhjaebaaGreat.Md
