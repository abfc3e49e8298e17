/-
  How four bytes among the arguments are read.
-/
import Derived.Test.YtnfddeoddjmpkaaCFrame
import Derived.Laws.IdiomArrays
namespace Go.Proofs.Ytnfddeoddjmpkaa.Co
open Go.ChangeShapes Go.WideShapes Go.ChangeAt Go.RowKit Go.Joins Go.Deep
set_option maxHeartbeats 1000000
section
variable {H : Type} {enc : TypeId × Value → H}
theorem c_four : Try.prog.cellsOf 43 = 4 := by kernel_rfl
theorem four_list {l : List Value} (h : l.length = 4) : ∃ c0 c1 c2 c3, l = [c0, c1, c2, c3] := by
  match l, h with
  | [c0, c1, c2, c3], _ => exact ⟨c0, c1, c2, c3, rfl⟩
theorem byte_int {z : Int} (h : (Lit.int .u8 z).wf = true) : ∃ a : UInt8, z = (a.toNat : Int) := by
  have hb := bounds_u8 h
  exact ⟨UInt8.ofNat z.toNat, by rw [byte_of (by omega), Int.toNat_of_nonneg hb.1]⟩
theorem open_four {w : World} {r : Reach} {b0 : Nat} {v : Value} {d : DataW H} {ps : List MemPlace} (hv : Value.okWide Try.prog w r b0 43 v) (h : DataW.Trod enc Try.prog w 0 (fun _ => true) true 43 v d ps) :
    ∃ a b c e : UInt8, v = .agg #[.int .u8 (a.toNat : Int), .int .u8 (b.toNat : Int), .int .u8 (c.toNat : Int), .int .u8 (e.toNat : Int)] := by
  simp only [Value.okWide, Try.underlying43] at hv
  obtain ⟨cs, rfl, hsz, -⟩ := hv
  obtain ⟨l⟩ := cs
  obtain ⟨c0, c1, c2, c3, rfl⟩ := four_list (hsz.trans c_four)
  obtain ⟨fuel, hf⟩ := h
  obtain ⟨y0, y1, y2, y3, n, -, g0, g1, g2, g3⟩ := trod_array4 Try.underlying43 c_u8 hf
  obtain ⟨a0, k0, -, w0⟩ := DataW.trod_int Try.underlying5 g0
  obtain ⟨a1, k1, -, w1⟩ := DataW.trod_int Try.underlying5 g1
  obtain ⟨a2, k2, -, w2⟩ := DataW.trod_int Try.underlying5 g2
  obtain ⟨a3, k3, -, w3⟩ := DataW.trod_int Try.underlying5 g3
  simp only [List.cons.injEq, and_true] at k0 k1 k2 k3
  subst k0 k1 k2 k3
  obtain ⟨b0, rfl⟩ := byte_int w0
  obtain ⟨b1, rfl⟩ := byte_int w1
  obtain ⟨b2, rfl⟩ := byte_int w2
  obtain ⟨b3, rfl⟩ := byte_int w3
  exact ⟨b0, b1, b2, b3, rfl⟩
end
end Go.Proofs.Ytnfddeoddjmpkaa.Co
