/-
  The law of sums, walked; texts and bytes, one made of the other.
-/
import Derived.Test.YtnfddeoddjmpkaaCAwake
import Derived.Test.YtnfddeoddjmpkaaCFrame
namespace Go.Proofs.Ytnfddeoddjmpkaa.Co
open Go.RowKit
set_option maxHeartbeats 4000000
theorem conv_S {w : World} {p : Option Addr} {n c : Nat} {l : List UInt8} {S : ByteArray} (h : Byt w p n l) (hS : (⟨l.toArray⟩ : ByteArray) = S) : (convert 22 9 (.slice p n c)).run Try.prog w = .ok (.string S) w := by
  subst hS
  exact conv_byt h
theorem own_S {B : Nat} {w : World} {v : Value} {n : Nat} {l : List UInt8} {S : ByteArray} (h : w.ownsRow B 5 1 v n (bv l)) (hS : (⟨l.toArray⟩ : ByteArray) = S) (hn : n ≤ 9223372036854775807) : (convert 22 9 v).run Try.prog w = .ok (.string S) w := by
  subst hS
  exact conv_own h rfl hn
theorem bytes_S {l : List UInt8} {S : ByteArray} (hS : (⟨l.toArray⟩ : ByteArray) = S) (hl : l.length ≤ 9223372036854775807) (w : World) :
    ∃ c w', (convert 9 22 (.string S)).run Try.prog w = .ok (.slice (some ⟨w.heap.size, 0, none⟩) l.length c) w' ∧ Byt w' (some ⟨w.heap.size, 0, none⟩) l.length l ∧ Below w.heap.size w w' ∧ l.length ≤ c := by
  subst hS
  refine ⟨_, _, run_bytes_of_string w _ _ 5 _ Try.underlying9 Try.underlying22 Try.underlying5, ⟨rfl, hl, .inr ⟨_, _, rfl, by simp, Lib.hid fun i hi => ?_⟩⟩, bl_alloc (bl_drew (Below.refl _ _)), grownCap_ge _ _ _ _⟩
  have e : (w.drew.alloc (.cells (bytesRow ⟨l.toArray⟩ (grownCap w (ByteArray.size ⟨l.toArray⟩) 0 5)) 5 ((bytesRow ⟨l.toArray⟩ (grownCap w (ByteArray.size ⟨l.toArray⟩) 0 5)).size, (bytesRow ⟨l.toArray⟩ (grownCap w (ByteArray.size ⟨l.toArray⟩) 0 5)).size + 1))).cell? ⟨w.drew.heap.size, 0 + i, none⟩ = _ := World.cell?_alloc_mark _ _ _ _ _
  rw [show w.drew.heap.size = w.heap.size from rfl] at e
  rw [e, Nat.zero_add, bytesRow_at _ _ _ (by simpa using hi)]
  simp
theorem codecSums_walk (p : Option Addr) (n c : Nat) (l : List UInt8) (w : World) (_ : n ≤ c) (hb : Byt w p n l) : Calls Try.prog 8 #[.slice p n c] w (Gives (.bool true) w) := by
  by_cases h6 : n ≤ 600
  · have t1 : decide ((600 : Int) < (n : Int)) = false := decide_eq_false (by omega)
    obtain ⟨S, hS⟩ : ∃ S : ByteArray, (⟨l.toArray⟩ : ByteArray) = S := ⟨_, rfl⟩
    have HS := Lib.hid hS
    have HB := Lib.hid hb
    have HL : Hid (l.length ≤ 9223372036854775807) := Lib.hid (by have := hb.1; have := hb.2.1; omega)
    have q0 := conv_S (c := c) hb hS
    have h6' : (n : Int) ≤ 600 := by omega
    obtain ⟨X, hX⟩ : ∃ X, sumC l = X := ⟨_, rfl⟩
    have I1 := Lib.hid (sum_any p n c l w hb)
    have I2 := Lib.hid fun p n c w hb => rsum_any p n c l w hb
    rw [hX] at I1 I2
    have t2 : ((X : Int) == (X : Int)) = true := by simp
    clear hb hS h6 hX
    go_enter Try.func8, Try.ntmps8
    go_wp2_with fail
    refine I1.out.mono ?_
    rintro e w1 ⟨rfl, hb1⟩
    obtain ⟨c2, w2, q1, hq1, hb2, -⟩ := bytes_S HS.out HL.out w1
    have HB2 : Hid (Below w.heap.size w w2) := Lib.hid (by (repeat (first | (with_reducible exact Below.refl _ _) | (with_reducible assumption) | (with_reducible apply bl_alloc) | (with_reducible apply bl_drewN) | (with_reducible apply bl_drew) | (with_reducible refine bl_set ?_ (by first | (simp; done) | (simp; omega)) _) | (with_reducible refine bl_call ?_ (by assumption)))))
    have HQ1 := Lib.hid hq1
    clear hb1 hb2 hq1
    go_wp2_with fail
    refine (I2.out _ _ _ _ HQ1.out).mono ?_
    rintro e w3 ⟨rfl, hb3⟩
    have HB3 : Hid (Below w.heap.size w w3) := Lib.hid (by have HBB := HB2.out; (repeat (first | (with_reducible exact Below.refl _ _) | (with_reducible assumption) | (with_reducible apply bl_alloc) | (with_reducible apply bl_drewN) | (with_reducible apply bl_drew) | (with_reducible refine bl_set ?_ (by first | (simp; done) | (simp; omega)) _) | (with_reducible refine bl_call ?_ (by assumption)))))
    have q3 := conv_S (c := c) (HB.out.on HB3.out) HS.out
    clear hb3
    go_wp2_with fail
    refine (awake_any _).mono ?_
    rintro e w4 ⟨rfl, hb4⟩
    go_wp2_with fail
    go_ret
    exact ⟨rfl, by have HBB := HB3.out; (repeat (first | (with_reducible exact Below.refl _ _) | (with_reducible assumption) | (with_reducible apply bl_alloc) | (with_reducible apply bl_drewN) | (with_reducible apply bl_drew) | (with_reducible refine bl_set ?_ (by first | (simp; done) | (simp; omega)) _) | (with_reducible refine bl_call ?_ (by assumption))))⟩
  · have t1 : decide ((600 : Int) < (n : Int)) = true := decide_eq_true (by omega)
    clear h6 hb
    go_enter Try.func8, Try.ntmps8
    go_wp2_with fail
    refine (awake_any _).mono ?_
    rintro e w1 ⟨rfl, hb1⟩
    go_wp2_with fail
    go_ret
    exact ⟨rfl, by (repeat (first | (with_reducible exact Below.refl _ _) | (with_reducible assumption) | (with_reducible apply bl_alloc) | (with_reducible apply bl_drewN) | (with_reducible apply bl_drew) | (with_reducible refine bl_set ?_ (by first | (simp; done) | (simp; omega)) _) | (with_reducible refine bl_call ?_ (by assumption))))⟩
end Go.Proofs.Ytnfddeoddjmpkaa.Co
