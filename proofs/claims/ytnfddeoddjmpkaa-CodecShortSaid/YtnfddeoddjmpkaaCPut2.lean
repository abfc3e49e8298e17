/-
  The contracts of PutInt and PutInts, of the library and of the reference.
-/
import Derived.Test.YtnfddeoddjmpkaaCPut
namespace Go.Proofs.Ytnfddeoddjmpkaa.Co
open Go.RowKit
set_option maxHeartbeats 1000000
theorem putint_any (p : Option Addr) (n c : Nat) (l : List UInt8) (k : Int) (w : World) (hb : Byt w p n l) (hn : Hid (n < 140737488355000)) (hc : n ≤ c) (h : -9223372036854775808 ≤ k) (h2 : k ≤ 9223372036854775807) :
    Calls Try.prog 12 #[.slice p n c, .int .i64 k] w (Owned w.heap.size (l ++ enc k) w) := by
  have hn2 : n ≤ 9223372036854775807 := hb.2.1
  have HB := Lib.hid hb
  clear hb
  go_enter Try.func12, Try.ntmps12
  go_wp2_with fail
  refine (limited_any p n c hn2 hc _).mono ?_
  rintro e w1 ⟨rfl, rfl⟩
  go_wp2_with fail
  refine (appended_any _ n l k w (.inr ⟨p, rfl, HB.out⟩) (Nat.le_refl _) hn.out h h2).mono ?_
  rintro e w1 ⟨v, rfl, ho, hb1⟩
  have HO := Lib.hid ho
  clear ho
  go_wp2_with fail
  go_ret
  exact ⟨v, rfl, HO.out, hb1⟩
/-- Appending all bytes of a slice to a row of the call's own. -/
theorem run_cat {B : Nat} {w : World} {v : Value} {m : Nat} {xs : List UInt8} (hown : w.ownsRow B 5 1 v m (bv xs)) (hB : B ≤ w.heap.size) {p : Option Addr} {n c : Nat} {l : List UInt8} (hb : Byt w p n l) (hn : m + n < 140737488355328) :
    ∃ v' w', (Builtin.append_ #[22, 22] 22 #[v, .slice p n c]).run Try.prog w = .ok v' w' ∧ w'.ownsRow B 5 1 v' (m + n) (bv (xs ++ l)) ∧ Below B w w' := by
  obtain ⟨i0, hi0, hz0, hz1, hz2⟩ := parts_of u8_info
  have e : bv (xs ++ l) = bv xs ++ bv l := by unfold bv; rw [List.map_append]
  rcases p with - | a
  · have hz : n = 0 := by
      rcases hb.2.2 with h | ⟨b, o, h, -⟩
      · exact h
      · cases h
    subst hz
    obtain rfl : l = [] := List.eq_nil_of_length_eq_zero hb.1
    refine ⟨v, w, ?_, by rw [List.append_nil]; exact hown, Below.refl _ _⟩
    rcases hown.2 with ⟨rfl, rfl⟩ | ⟨g, cap, cur, rfl, -, -, hnc, -⟩
    · simp [Builtin.append_, run_underlying Try.underlying22, sizeOf, typeInfo, hi0, Builtin.lenOf, Builtin.firstCells]
    · simp [Builtin.append_, run_underlying Try.underlying22, sizeOf, typeInfo, hi0, Builtin.lenOf, Builtin.firstCells, hnc, storeCells]
  · have hlt := hown.lt
    obtain ⟨v', w', hrun, h2, h3, -, -⟩ := run_append_own_at (P := Try.prog) w B 22 22 5 i0 _ 1 1 Try.underlying22 hi0 hz0 hz1 hz2 rfl (by omega) v m (bv xs) hown a n c (bv l) (by rw [bv_len, hb.1]; omega) (by
        intro j u hu
        have hj : j < l.length := by
          have := (List.getElem?_eq_some_iff.1 hu).1
          rwa [bv_len] at this
        rcases hb.2.2 with h | ⟨b, o, h, -, -⟩
        · have := hb.1; omega
        · cases h
          exact hb.cells j u hu) bv_one (by unfold maxLen; omega) (by omega) hB
    exact ⟨v', w', hrun, by rw [e]; exact h2, (Below.refl _ _).grown h3 hB fun k hk => (hlt k hk).1⟩
/-- An empty list of bytes, made anew. -/
theorem own_empty {B : Nat} {w : World} (hB : B ≤ w.heap.size) : (w.alloc (.cells #[] 5)).ownsRow B 5 1 (.slice (some ⟨w.heap.size, 0, none⟩) 0 0) 0 (bv []) :=
  World.ownsRow_lit (w := w) (base := B) (e := 5) (size := 1) #[] 0 hB (by unfold maxLen; omega) rfl
theorem rputint_any (p : Option Addr) (n c : Nat) (l : List UInt8) (k : Int) (w : World) (hb : Byt w p n l) (hn : Hid (n < 140737488355000)) (h : -9223372036854775808 ≤ k) (h2 : k ≤ 9223372036854775807) :
    Calls Try.prog 15 #[.slice p n c, .int .i64 k] w (Owned w.heap.size (l ++ enc k) w) := by
  have hu := Lib.hid (numZ_lt h h2)
  obtain ⟨v1, w1, hrun, ho, hb1⟩ := run_cat (c := c) (own_empty (Nat.le_refl w.heap.size)) (by simp) (hb.alloc (o := .cells #[] 5)) (by have := hn.out; omega)
  have HB1 : Hid (Below w.heap.size w w1) := Lib.hid (((Below.refl _ _).alloc (Nat.le_refl _) _).trans hb1)
  have HO : Hid (w1.ownsRow w.heap.size 5 1 v1 n (bv l)) := Lib.hid (by simpa using ho)
  have HL := Lib.hid hb.1
  clear ho hb1 hb
  go_enter Try.func15, Try.ntmps15
  go_wp2_with (at_builtin; refine Lib.wpList_append_run _ rfl _ _ _ _ rfl _ _ rfl rfl _ _ hrun ?_)
  refine (rnumber_any k _ h h2).mono ?_
  rintro e w2 ⟨rfl, rfl⟩
  clear hrun
  go_wp2_with fail
  go_loopw [5, 6] (fun v u wr => ∃ (n' : Nat) (l' : List UInt8) (U : Nat), Hid (wr.ownsRow w.heap.size 5 1 v n' (bv l')) ∧ u = .int .u64 (U : Nat) ∧ Hid (Below w.heap.size w wr) ∧ Hid (l' ++ encN U = l ++ enc k) ∧ Hid (U < 18446744073709551616)) (fun _ u _ => (intOf u).toNat)
  case atStart => exact ⟨n, l, numZ k, HO, rfl, HB1, Lib.hid rfl, hu⟩
  case round =>
    obtain ⟨n', l', U, HO1, rfl, HB2, HE, hU⟩ := hrel
    have hn' : Hid (n' < 140737488355328) := Lib.hid (by
      have := congrArg List.length HE.out
      have h10 := (enc_len (n := k) ⟨h, h2⟩).2
      have := own_len HO1.out
      rw [bv_len] at this
      have := hn.out
      have := HL.out
      rw [List.length_append, List.length_append] at *
      omega)
    by_cases hlt : U < 128
    · obtain ⟨v', w', hrun, ho, hb⟩ := run_app (.inl HO1.out) HB2.out.size hn'.out (UInt8.ofNat U) (U : Int) (by rw [byte_of (by omega)])
      have HR : Hid (Owned w.heap.size (l ++ enc k) w (.returned v') w') := by
        refine Lib.hid ⟨v', rfl, ?_, HB2.out.trans hb⟩
        have e := HE.out
        rw [encN_small hlt] at e
        rw [e] at ho
        rwa [← own_len ho, bv_len] at ho
      clear ho hb
      have g1 : (U : Int) < 128 := by omega
      have g0 : (0 : Int) ≤ (U : Int) := by omega
      have g2 : decide ((128 : Int) ≤ (U : Int)) = false := decide_eq_false (by omega)
      clear hlt
      go_wp2_with (at_builtin; refine Lib.wpList_append_run _ rfl _ _ _ _ rfl _ _ rfl rfl _ _ hrun ?_)
      go_ret
      exact HR.out
    · obtain ⟨v', w', hrun, ho, hb⟩ := run_app (.inl HO1.out) HB2.out.size hn'.out (UInt8.ofNat (U % 128 + 128)) ((U : Int) % 128 + 128) (by rw [byte_of (by omega)]; omega)
      have HO2 : Hid (w'.ownsRow w.heap.size 5 1 v' (n' + 1) (bv (l' ++ [UInt8.ofNat (U % 128 + 128)]))) := Lib.hid ho
      have HB3 : Hid (Below w.heap.size w w') := Lib.hid (HB2.out.trans hb)
      have HE2 : Hid (l' ++ [UInt8.ofNat (U % 128 + 128)] ++ encN (U / 128) = l ++ enc k) := Lib.hid (by rw [← HE.out, encN_great hlt, List.append_assoc]; rfl)
      have hU2 : Hid (U / 128 < 18446744073709551616) := Lib.hid (by have := hU.out; omega)
      clear ho hb
      have g1 : (128 : Int) ≤ (U : Int) := by omega
      have g3 : (U : Int) < 18446744073709551616 := by have := hU.out; omega
      go_wp2_with (at_builtin; refine Lib.wpList_append_run _ rfl _ _ _ _ rfl _ _ rfl rfl _ _ hrun ?_)
      go_roundw
      case rel => exact ⟨n' + 1, _, U / 128, HO2, by go_num, HB3, HE2, hU2⟩
      case measure => simp [intOf]; omega
end Go.Proofs.Ytnfddeoddjmpkaa.Co
