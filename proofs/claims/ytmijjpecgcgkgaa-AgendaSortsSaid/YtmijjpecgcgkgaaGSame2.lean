/-
  The contract of the reference's Same.
-/
import Derived.Test.YtmijjpecgcgkgaaGSame
namespace Go.Proofs.Ytmijjpecgcgkgaa.Ag
open Go.RowKit
set_option maxHeartbeats 2000000
theorem rsame_any (x y : Ev) (w : World) (hx : Row w x.ap x.al x.V) (hy : Row w y.ap y.al y.V) : Calls Try.prog 12 #[.agg #[.int .i64 x.t, .int .i64 x.p, .int .i64 x.f, .int .i64 x.s, .int .i64 x.st, .int .i64 x.k, .int .i64 x.a, .int .i64 x.b, .slice x.ap x.al x.ac], .agg #[.int .i64 y.t, .int .i64 y.p, .int .i64 y.f, .int .i64 y.s, .int .i64 y.st, .int .i64 y.k, .int .i64 y.a, .int .i64 y.b, .slice y.ap y.al y.ac]] w (Gives (.bool (sameB x y)) w) := by
  have A0 : nine ((w.alloc (.cells #[.int .i64 x.t, .int .i64 x.p, .int .i64 x.f, .int .i64 x.s, .int .i64 x.st, .int .i64 x.k, .int .i64 x.a, .int .i64 x.b, .slice x.ap x.al x.ac] 25)).alloc (.cells #[.int .i64 y.t, .int .i64 y.p, .int .i64 y.f, .int .i64 y.s, .int .i64 y.st, .int .i64 y.k, .int .i64 y.a, .int .i64 y.b, .slice y.ap y.al y.ac] 25)) w.heap.size x := nine.new.alloc
  have B0 : nine ((w.alloc (.cells #[.int .i64 x.t, .int .i64 x.p, .int .i64 x.f, .int .i64 x.s, .int .i64 x.st, .int .i64 x.k, .int .i64 x.a, .int .i64 x.b, .slice x.ap x.al x.ac] 25)).alloc (.cells #[.int .i64 y.t, .int .i64 y.p, .int .i64 y.f, .int .i64 y.s, .int .i64 y.st, .int .i64 y.k, .int .i64 y.a, .int .i64 y.b, .slice y.ap y.al y.ac] 25)) (w.alloc (.cells #[.int .i64 x.t, .int .i64 x.p, .int .i64 x.f, .int .i64 x.s, .int .i64 x.st, .int .i64 x.k, .int .i64 x.a, .int .i64 x.b, .slice x.ap x.al x.ac] 25)).heap.size y := nine.new
  rw [show (w.alloc (.cells #[.int .i64 x.t, .int .i64 x.p, .int .i64 x.f, .int .i64 x.s, .int .i64 x.st, .int .i64 x.k, .int .i64 x.a, .int .i64 x.b, .slice x.ap x.al x.ac] 25)).heap.size = w.heap.size + 1 from by simp] at B0
  have hX : Row ((w.alloc (.cells #[.int .i64 x.t, .int .i64 x.p, .int .i64 x.f, .int .i64 x.s, .int .i64 x.st, .int .i64 x.k, .int .i64 x.a, .int .i64 x.b, .slice x.ap x.al x.ac] 25)).alloc (.cells #[.int .i64 y.t, .int .i64 y.p, .int .i64 y.f, .int .i64 y.s, .int .i64 y.st, .int .i64 y.k, .int .i64 y.a, .int .i64 y.b, .slice y.ap y.al y.ac] 25)) x.ap x.al x.V := hx.alloc.alloc
  have hY : Row ((w.alloc (.cells #[.int .i64 x.t, .int .i64 x.p, .int .i64 x.f, .int .i64 x.s, .int .i64 x.st, .int .i64 x.k, .int .i64 x.a, .int .i64 x.b, .slice x.ap x.al x.ac] 25)).alloc (.cells #[.int .i64 y.t, .int .i64 y.p, .int .i64 y.f, .int .i64 y.s, .int .i64 y.st, .int .i64 y.k, .int .i64 y.a, .int .i64 y.b, .slice y.ap y.al y.ac] 25)) y.ap y.al y.V := hy.alloc.alloc
  clear hx hy
  rw [sameR]
  cases h0 : (x.t == y.t)
  · rw [Bool.false_and]
    obtain ⟨a0, a1, a2, a3, a4, a5, a6, a7, a8, a9⟩ := A0
    have A0 : nine _ _ _ := ⟨a0, a1, a2, a3, a4, a5, a6, a7, a8, a9⟩
    obtain ⟨b0, b1, b2, b3, b4, b5, b6, b7, b8, b9⟩ := B0
    have B0 : nine _ _ _ := ⟨b0, b1, b2, b3, b4, b5, b6, b7, b8, b9⟩
    go_enter Try.func12, Try.ntmps12
    go_wp2_with fail
    go_ret
    exact ⟨rfl, by (repeat (first | (with_reducible exact Below.refl _ _) | (with_reducible assumption) | (with_reducible apply bl_alloc) | (with_reducible apply bl_drewN) | (with_reducible apply bl_drew) | (with_reducible refine bl_set ?_ (by first | (simp; done) | (simp; omega)) _) | (with_reducible refine bl_call ?_ (by assumption))))⟩
  rw [Bool.true_and]
  cases h1 : (x.p == y.p)
  · rw [Bool.false_and]
    obtain ⟨a0, a1, a2, a3, a4, a5, a6, a7, a8, a9⟩ := A0
    have A0 : nine _ _ _ := ⟨a0, a1, a2, a3, a4, a5, a6, a7, a8, a9⟩
    obtain ⟨b0, b1, b2, b3, b4, b5, b6, b7, b8, b9⟩ := B0
    have B0 : nine _ _ _ := ⟨b0, b1, b2, b3, b4, b5, b6, b7, b8, b9⟩
    go_enter Try.func12, Try.ntmps12
    go_wp2_with fail
    go_ret
    exact ⟨rfl, by (repeat (first | (with_reducible exact Below.refl _ _) | (with_reducible assumption) | (with_reducible apply bl_alloc) | (with_reducible apply bl_drewN) | (with_reducible apply bl_drew) | (with_reducible refine bl_set ?_ (by first | (simp; done) | (simp; omega)) _) | (with_reducible refine bl_call ?_ (by assumption))))⟩
  rw [Bool.true_and]
  cases h2 : (x.f == y.f)
  · rw [Bool.false_and]
    obtain ⟨a0, a1, a2, a3, a4, a5, a6, a7, a8, a9⟩ := A0
    have A0 : nine _ _ _ := ⟨a0, a1, a2, a3, a4, a5, a6, a7, a8, a9⟩
    obtain ⟨b0, b1, b2, b3, b4, b5, b6, b7, b8, b9⟩ := B0
    have B0 : nine _ _ _ := ⟨b0, b1, b2, b3, b4, b5, b6, b7, b8, b9⟩
    go_enter Try.func12, Try.ntmps12
    go_wp2_with fail
    go_ret
    exact ⟨rfl, by (repeat (first | (with_reducible exact Below.refl _ _) | (with_reducible assumption) | (with_reducible apply bl_alloc) | (with_reducible apply bl_drewN) | (with_reducible apply bl_drew) | (with_reducible refine bl_set ?_ (by first | (simp; done) | (simp; omega)) _) | (with_reducible refine bl_call ?_ (by assumption))))⟩
  rw [Bool.true_and]
  cases h3 : (x.s == y.s)
  · rw [Bool.false_and]
    obtain ⟨a0, a1, a2, a3, a4, a5, a6, a7, a8, a9⟩ := A0
    have A0 : nine _ _ _ := ⟨a0, a1, a2, a3, a4, a5, a6, a7, a8, a9⟩
    obtain ⟨b0, b1, b2, b3, b4, b5, b6, b7, b8, b9⟩ := B0
    have B0 : nine _ _ _ := ⟨b0, b1, b2, b3, b4, b5, b6, b7, b8, b9⟩
    go_enter Try.func12, Try.ntmps12
    go_wp2_with fail
    go_ret
    exact ⟨rfl, by (repeat (first | (with_reducible exact Below.refl _ _) | (with_reducible assumption) | (with_reducible apply bl_alloc) | (with_reducible apply bl_drewN) | (with_reducible apply bl_drew) | (with_reducible refine bl_set ?_ (by first | (simp; done) | (simp; omega)) _) | (with_reducible refine bl_call ?_ (by assumption))))⟩
  rw [Bool.true_and]
  cases h4 : (x.st == y.st)
  · rw [Bool.false_and]
    obtain ⟨a0, a1, a2, a3, a4, a5, a6, a7, a8, a9⟩ := A0
    have A0 : nine _ _ _ := ⟨a0, a1, a2, a3, a4, a5, a6, a7, a8, a9⟩
    obtain ⟨b0, b1, b2, b3, b4, b5, b6, b7, b8, b9⟩ := B0
    have B0 : nine _ _ _ := ⟨b0, b1, b2, b3, b4, b5, b6, b7, b8, b9⟩
    go_enter Try.func12, Try.ntmps12
    go_wp2_with fail
    go_ret
    exact ⟨rfl, by (repeat (first | (with_reducible exact Below.refl _ _) | (with_reducible assumption) | (with_reducible apply bl_alloc) | (with_reducible apply bl_drewN) | (with_reducible apply bl_drew) | (with_reducible refine bl_set ?_ (by first | (simp; done) | (simp; omega)) _) | (with_reducible refine bl_call ?_ (by assumption))))⟩
  rw [Bool.true_and]
  cases h5 : (x.k == y.k)
  · rw [Bool.false_and]
    obtain ⟨a0, a1, a2, a3, a4, a5, a6, a7, a8, a9⟩ := A0
    have A0 : nine _ _ _ := ⟨a0, a1, a2, a3, a4, a5, a6, a7, a8, a9⟩
    obtain ⟨b0, b1, b2, b3, b4, b5, b6, b7, b8, b9⟩ := B0
    have B0 : nine _ _ _ := ⟨b0, b1, b2, b3, b4, b5, b6, b7, b8, b9⟩
    go_enter Try.func12, Try.ntmps12
    go_wp2_with fail
    go_ret
    exact ⟨rfl, by (repeat (first | (with_reducible exact Below.refl _ _) | (with_reducible assumption) | (with_reducible apply bl_alloc) | (with_reducible apply bl_drewN) | (with_reducible apply bl_drew) | (with_reducible refine bl_set ?_ (by first | (simp; done) | (simp; omega)) _) | (with_reducible refine bl_call ?_ (by assumption))))⟩
  rw [Bool.true_and]
  cases h6 : (x.a == y.a)
  · rw [Bool.false_and]
    obtain ⟨a0, a1, a2, a3, a4, a5, a6, a7, a8, a9⟩ := A0
    have A0 : nine _ _ _ := ⟨a0, a1, a2, a3, a4, a5, a6, a7, a8, a9⟩
    obtain ⟨b0, b1, b2, b3, b4, b5, b6, b7, b8, b9⟩ := B0
    have B0 : nine _ _ _ := ⟨b0, b1, b2, b3, b4, b5, b6, b7, b8, b9⟩
    go_enter Try.func12, Try.ntmps12
    go_wp2_with fail
    go_ret
    exact ⟨rfl, by (repeat (first | (with_reducible exact Below.refl _ _) | (with_reducible assumption) | (with_reducible apply bl_alloc) | (with_reducible apply bl_drewN) | (with_reducible apply bl_drew) | (with_reducible refine bl_set ?_ (by first | (simp; done) | (simp; omega)) _) | (with_reducible refine bl_call ?_ (by assumption))))⟩
  rw [Bool.true_and]
  cases h7 : (x.b == y.b)
  · rw [Bool.false_and]
    obtain ⟨a0, a1, a2, a3, a4, a5, a6, a7, a8, a9⟩ := A0
    have A0 : nine _ _ _ := ⟨a0, a1, a2, a3, a4, a5, a6, a7, a8, a9⟩
    obtain ⟨b0, b1, b2, b3, b4, b5, b6, b7, b8, b9⟩ := B0
    have B0 : nine _ _ _ := ⟨b0, b1, b2, b3, b4, b5, b6, b7, b8, b9⟩
    go_enter Try.func12, Try.ntmps12
    go_wp2_with fail
    go_ret
    exact ⟨rfl, by (repeat (first | (with_reducible exact Below.refl _ _) | (with_reducible assumption) | (with_reducible apply bl_alloc) | (with_reducible apply bl_drewN) | (with_reducible apply bl_drew) | (with_reducible refine bl_set ?_ (by first | (simp; done) | (simp; omega)) _) | (with_reducible refine bl_call ?_ (by assumption))))⟩
  rw [Bool.true_and]
  obtain ⟨a0, a1, a2, a3, a4, a5, a6, a7, a8, a9⟩ := A0
  have A0 : nine _ _ _ := ⟨a0, a1, a2, a3, a4, a5, a6, a7, a8, a9⟩
  obtain ⟨b0, b1, b2, b3, b4, b5, b6, b7, b8, b9⟩ := B0
  have B0 : nine _ _ _ := ⟨b0, b1, b2, b3, b4, b5, b6, b7, b8, b9⟩
  go_enter Try.func12, Try.ntmps12
  go_wp2_with fail
  refine (ints_any x.ap y.ap x.al y.al x.ac y.ac x.V y.V _ hX hY).mono ?_
  rintro e w2 ⟨rfl, t2, rfl⟩
  go_wp2_with fail
  go_ret
  exact ⟨rfl, by (repeat (first | (with_reducible exact Below.refl _ _) | (with_reducible assumption) | (with_reducible apply bl_alloc) | (with_reducible apply bl_drewN) | (with_reducible apply bl_drew) | (with_reducible refine bl_set ?_ (by first | (simp; done) | (simp; omega)) _) | (with_reducible refine bl_call ?_ (by assumption))))⟩
end Go.Proofs.Ytmijjpecgcgkgaa.Ag
