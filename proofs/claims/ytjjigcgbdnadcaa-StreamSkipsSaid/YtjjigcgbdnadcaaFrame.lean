/-
  The last step of a law's row; how a stream among the arguments is read.
-/
import Derived.Test.YtjjigcgbdnadcaaBase
import Derived.ProofKit
import Derived.OpenShut
import Derived.Lib.SmallJoins
namespace Go.Proofs.Ytjjigcgbdnadcaa
open Go.ChangeShapes Go.WideShapes Go.ChangeAt Go.RowKit
section
variable {H : Type} {enc : TypeId × Value → H}
/-- The last step of a law's row (a row that does not say 'again'): the result is a bool, the arguments read as before, and of what was there nothing has turned; new blocks may be of any make. -/
theorem law_post {f : Func} {s : ChangeSpec} {W W' : World} {args : Array Value} {b : Bool} {ds : List (DataW H)} {before : List MemPlace}
    (hW : DataW.Whole enc Try.prog f.params.toList s.vars false W args.toList ds [] before)
    (hres : DataW.TrodAll enc Try.prog W' W.heap.size (fun _ => false) false f.resultTypes.toList ((Value.bool b).resultList f.resultTypes.size) (s.fn H (ds ++ [])).results [])
    (hargs : DataW.TrodAll enc Try.prog W' 0 (fun k => decide (k < W.heap.size)) true f.params.toList args.toList (s.fn H (ds ++ [])).args before)
    (hvars : DataW.TrodVars enc Try.prog W' (fun k => decide (k < W.heap.size)) s.vars (s.fn H (ds ++ [])).vars [])
    (hb : Below W.heap.size W W') : s.post enc Try.prog f false true false false W args (.bool b) W' :=
  ⟨ds, [], before, [], before, [], hW, hres, hargs, hvars, World.keptBut_mono (fun _ hp => ⟨hp, Or.inr (Or.inl hp)⟩) (hb.frame (· ∈ before)), fun h => by cases h⟩
end
theorem own : ownKnob Try.prog.godebug = none := by kernel_rfl
section
open Go.Joins Go.Deep
variable {H : Type} {enc : TypeId × Value → H}
theorem stream_is : ∃ f0 f1 f2 : Field, Try.prog.underlying 27 = some (.struct #[f0, f1, f2]) ∧ oneCellFields Try.prog #[f0, f1, f2] = true ∧ Try.prog.cellsOf 27 = 3 ∧ f0.type = 22 ∧ f1.type = 3 ∧ f2.type = 4 :=
  ⟨_, _, _, Try.underlying27, by kernel_rfl, by kernel_rfl, rfl, rfl, rfl⟩
theorem open_stream {w : World} {base : Nat} {spare : Nat → Bool} {held : Bool} {r : Reach} {b0 : Nat} {v : Value} {d : DataW H} {p : List MemPlace} (hv : Value.okWide Try.prog w r b0 27 v)
    (h : DataW.Trod enc Try.prog w base spare held 27 v d p) :
    ∃ (k a : Int) (b : Bool), v = .agg #[.int .u64 k, .int .i64 a, .bool b] ∧ d = .agg [.lit (.int .u64 k), .lit (.int .i64 a), .lit (.bool b)] ∧ p = [] ∧ (Lit.int .u64 k).wf = true ∧ (Lit.int .i64 a).wf = true := by
  obtain ⟨f0, f1, f2, hs, h1, hC, e0, e1, e2⟩ := stream_is
  obtain ⟨v0, v1, v2, y0, y1, y2, n, rfl, rfl, rfl, g0, g1, g2⟩ := open_agg3 hs h1 hC hv h
  rw [e0] at g0
  rw [e1] at g1
  rw [e2] at g2
  obtain ⟨a, k0, rfl, wa⟩ := DataW.trod_int Try.underlying22 g0
  obtain ⟨b, k1, rfl, wb⟩ := DataW.trod_int Try.underlying3 g1
  obtain ⟨c, k2, rfl⟩ := DataW.trod_bool Try.underlying4 g2
  simp only [List.cons.injEq, and_true] at k0 k1 k2
  subst k0 k1 k2
  exact ⟨a, b, c, rfl, rfl, rfl, wa, wb⟩
theorem shut_stream {w : World} {base : Nat} {spare : Nat → Bool} {held : Bool} {k a : Int} {b : Bool} (wa : (Lit.int .u64 k).wf = true) (wb : (Lit.int .i64 a).wf = true) :
    DataW.Trod enc Try.prog w base spare held 27 (.agg #[.int .u64 k, .int .i64 a, .bool b]) (.agg [.lit (.int .u64 k), .lit (.int .i64 a), .lit (.bool b)]) [] := by
  obtain ⟨f0, f1, f2, hs, h1, hC, e0, e1, e2⟩ := stream_is
  exact shut_agg3 (y0 := (.lit (.int .u64 k), [])) (y1 := (.lit (.int .i64 a), [])) (y2 := (.lit (.bool b), [])) hs h1 hC ⟨1, by rw [e0]; exact trod_int_mk 0 Try.underlying22 wa⟩ ⟨1, by rw [e1]; exact trod_int_mk 0 Try.underlying3 wb⟩
    ⟨1, by rw [e2]; exact (show DataW.trod enc Try.prog w base spare held 1 4 [.bool b] = some (.lit (.bool b), []) by simp [DataW.trod, Try.underlying4])⟩
end
/-- A uint64 is a natural number. -/
theorem nat_of {k : Int} (h : (Lit.int .u64 k).wf = true) : ∃ n : Nat, k = (n : Int) ∧ n < 18446744073709551616 := by
  have := bounds_u64 h
  exact ⟨k.toNat, by omega, by omega⟩
end Go.Proofs.Ytjjigcgbdnadcaa
