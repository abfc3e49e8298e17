/-
  The reference's check of a node, by forms: TwoF, TwoT, SlotF, VarF.
-/
import Derived.Test.YtfkenbdfakjeoaaERNod
namespace Go.Proofs.Ytfkenbdfakjeoaa.Ex
open Go.RowKit
open Go.Proofs.Ytfkenbdfakjeoaa.Na (bs bs_inj chk)
set_option maxHeartbeats 4000000
set_option linter.unusedVariables false
set_option linter.unusedSimpArgs false
set_option maxRecDepth 100000 in
theorem rn_SlotF (l : List Ex) (ih : IHn false l) (s : ByteArray) (n : Int) (p : Option Addr) (m c : Nat) (w : World) (h : In w (.mk (25) s n l) p m) (hs : Sz (.mk (25) s n l)) : Calls Try.prog 48 #[.agg #[.int .i64 (25), .string s, .int .i64 n, .slice p m c], .bool false] w (Gives (.int .i64 (bad false (pre (.mk (25) s n l)))) w) := by
  have HH := Lib.hid h
  have HI := Lib.hid ih
  obtain ⟨hl, hm⟩ := h.len
  have HL := Lib.hid hl
  have HS := Lib.hid hs
  have hsz := hs.self
  rw [bad_mk, hl]
  clear ih h hl hs
  have hA : ari (25) = 0 := rfl
  have hB : obj (25) = false := rfl
  have HA := Lib.hid (fun W => arity_gives hA W)
  have HB := Lib.hid (fun W => object_gives hB W)
  have hkn : known false (25) = false := rfl
  have HV := Lib.hid (show nd false (25) (bs s) n m = 1 from nb_kn hkn)
  rw [HV.out, if_neg (by decide)]
  clear hkn hA hB
  go_enter Try.func48, Try.ntmps48
  go_wp2_with (first | (go_at_call 58; refine (HA.out _).mono ?_; rintro e w1 ⟨rfl, rfl⟩) | (go_at_call 53; refine (HB.out _).mono ?_; rintro e w1 ⟨rfl, rfl⟩))
  go_ret
  exact ⟨rfl, by (repeat (first | (with_reducible exact Below.refl _ _) | (with_reducible assumption) | (with_reducible apply bl_alloc) | (with_reducible apply bl_drewN) | (with_reducible apply bl_drew) | (with_reducible refine bl_set ?_ (by first | (simp; done) | (simp; omega)) _) | (with_reducible refine bl_call ?_ (by assumption))))⟩
set_option maxRecDepth 100000 in
theorem rn_VarF (l : List Ex) (ih : IHn false l) (s : ByteArray) (n : Int) (p : Option Addr) (m c : Nat) (w : World) (h : In w (.mk (26) s n l) p m) (hs : Sz (.mk (26) s n l)) : Calls Try.prog 48 #[.agg #[.int .i64 (26), .string s, .int .i64 n, .slice p m c], .bool false] w (Gives (.int .i64 (bad false (pre (.mk (26) s n l)))) w) := by
  have HH := Lib.hid h
  have HI := Lib.hid ih
  obtain ⟨hl, hm⟩ := h.len
  have HL := Lib.hid hl
  have HS := Lib.hid hs
  have hsz := hs.self
  rw [bad_mk, hl]
  clear ih h hl hs
  have hA : ari (26) = 0 := rfl
  have hB : obj (26) = false := rfl
  have HA := Lib.hid (fun W => arity_gives hA W)
  have HB := Lib.hid (fun W => object_gives hB W)
  have hkn : known false (26) = false := rfl
  have HV := Lib.hid (show nd false (26) (bs s) n m = 1 from nb_kn hkn)
  rw [HV.out, if_neg (by decide)]
  clear hkn hA hB
  go_enter Try.func48, Try.ntmps48
  go_wp2_with (first | (go_at_call 58; refine (HA.out _).mono ?_; rintro e w1 ⟨rfl, rfl⟩) | (go_at_call 53; refine (HB.out _).mono ?_; rintro e w1 ⟨rfl, rfl⟩))
  go_ret
  exact ⟨rfl, by (repeat (first | (with_reducible exact Below.refl _ _) | (with_reducible assumption) | (with_reducible apply bl_alloc) | (with_reducible apply bl_drewN) | (with_reducible apply bl_drew) | (with_reducible refine bl_set ?_ (by first | (simp; done) | (simp; omega)) _) | (with_reducible refine bl_call ?_ (by assumption))))⟩
end Go.Proofs.Ytfkenbdfakjeoaa.Ex
