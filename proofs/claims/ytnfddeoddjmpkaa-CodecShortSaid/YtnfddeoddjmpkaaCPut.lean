/-
  The contracts of appended, limited, PutInt, and of the reference's PutInt.
-/
import Derived.Test.YtnfddeoddjmpkaaCNum
namespace Go.Proofs.Ytnfddeoddjmpkaa.Co
open Go.RowKit
set_option maxHeartbeats 1000000
/-- A slice of bytes to which may be appended without touching what was there. -/
def App (B : Nat) (w : World) (v : Value) (n : Nat) (l : List UInt8) : Prop :=
  w.ownsRow B 5 1 v n (bv l) ∨ ∃ p, v = .slice p n n ∧ Byt w p n l
theorem own_more {B C : Nat} {e : TypeId} {w : World} {v : Value} {n : Nat} {xs : List Value} (h : w.ownsRow C e 1 v n xs) (hB : B ≤ C) : w.ownsRow B e 1 v n xs := by
  obtain ⟨h1, h2 | ⟨g, cap, cur, hv, hg, h3⟩⟩ := h
  · exact ⟨h1, .inl h2⟩
  · exact ⟨h1, .inr ⟨g, cap, cur, hv, Nat.le_trans hB hg, h3⟩⟩
theorem bv_snoc {l : List UInt8} {c : UInt8} : bv l ++ [.int .u8 (c.toNat : Int)] = bv (l ++ [c]) := by unfold bv; simp
theorem one_new {w : World} {x : Value} {t : TypeId} : ∀ j u, [x][j]? = some u → (w.alloc (.cells #[x] t)).cell? ((⟨w.heap.size, 0, none⟩ : Addr).add j) = some u := cell_one_new w x t
theorem run_app {B : Nat} {w : World} {v : Value} {n : Nat} {l : List UInt8} (H : App B w v n l) (hB : B ≤ w.heap.size) (hn : n < 140737488355328) (c : UInt8) (x : Int) (hx : x = (c.toNat : Int)) :
    ∃ v' w', (Builtin.append_ #[22, 22] 22 #[v, .slice (some ⟨w.heap.size, 0, none⟩) 1 1]).run Try.prog (w.alloc (.cells #[.int .u8 x] 5)) = .ok v' w' ∧ w'.ownsRow B 5 1 v' (n + 1) (bv (l ++ [c])) ∧ Below B w w' := by
  subst hx
  obtain ⟨i0, hi0, hz0, hz1, hz2⟩ := parts_of u8_info
  have hbw : Below B w (w.alloc (.cells #[.int .u8 (c.toNat : Int)] 5)) := (Below.refl _ _).alloc hB _
  have own : ∀ v, w.ownsRow B 5 1 v n (bv l) → ∃ v' w', (Builtin.append_ #[22, 22] 22 #[v, .slice (some ⟨w.heap.size, 0, none⟩) 1 1]).run Try.prog (w.alloc (.cells #[.int .u8 (c.toNat : Int)] 5)) = .ok v' w' ∧ w'.ownsRow B 5 1 v' (n + 1) (bv (l ++ [c])) ∧ Below B w w' := by
    intro v hown
    have hlt := hown.lt
    obtain ⟨v', w', hrun, h2, h3, -, -⟩ := run_append_own_at (P := Try.prog) (w.alloc (.cells #[.int .u8 (c.toNat : Int)] 5)) B 22 22 5 i0 _ 1 1 Try.underlying22 hi0 hz0 hz1 hz2 rfl (by omega) v n (bv l) (hown.alloc _) ⟨w.heap.size, 0, none⟩ 1 1 [.int .u8 (c.toNat : Int)] rfl one_new
      (by intro u hu; simp at hu; subst hu; rfl) (by unfold maxLen; omega) (by omega) (by simp; omega)
    exact ⟨v', w', hrun, by rw [← bv_snoc]; exact h2, hbw.grown h3 (by simp; omega) fun k hk => (hlt k hk).1⟩
  rcases H with hown | ⟨p, rfl, hb⟩
  · exact own v hown
  · rcases p with - | a
    · have hz : n = 0 := by
        rcases hb.2.2 with h | ⟨b, o, h, -⟩
        · exact h
        · cases h
      subst hz
      obtain rfl : l = [] := List.eq_nil_of_length_eq_zero hb.1
      exact own _ (World.ownsRow_nil _ _ _ _)
    · obtain ⟨v', w', hrun, h2, h3⟩ := run_append_arg_grows (P := Try.prog) (w.alloc (.cells #[.int .u8 (c.toNat : Int)] 5)) 22 22 5 i0 _ 1 1 Try.underlying22 hi0 hz0 hz1 hz2 rfl (by omega) a n n (bv l) (by rw [bv_len, hb.1]; omega) (by
          intro j u hu
          have hj : j < l.length := by
            have := (List.getElem?_eq_some_iff.1 hu).1
            rwa [bv_len] at this
          rcases hb.2.2 with h | ⟨b, o, h, -, -⟩
          · have := hb.1; omega
          · cases h
            exact hb.alloc.cells j u hu) ⟨w.heap.size, 0, none⟩ 1 1 [.int .u8 (c.toNat : Int)] rfl one_new (by omega) (by unfold maxLen; omega) (by omega)
      refine ⟨v', w', hrun, ?_, hbw.grown h3 (by simp; omega) fun k hk => by cases hk⟩
      rw [← bv_snoc]
      exact own_more h2 (by simp; omega)
theorem App.len {B : Nat} {w : World} {v : Value} {n : Nat} {l : List UInt8} (h : App B w v n l) : l.length = n := by
  rcases h with h | ⟨p, -, h⟩
  · have := own_len h; rwa [bv_len] at this
  · exact h.1
theorem or_128 (U : Nat) : bits .or .u8 ((U : Int) % 128) 128 = ((UInt8.ofNat (U % 128 + 128)).toNat : Int) := by
  rw [byte_of (by omega)]
  have h := u8_or_nat (U % 128) 128 (by omega) (by decide)
  have e : ((U % 128 : Nat) : Int) = (U : Int) % 128 := by omega
  rw [e] at h
  show bits .or .u8 ((U : Int) % 128) ((128 : Nat) : Int) = _
  rw [h, Nat.or_comm, nat_join 7 128 (U % 128) (by decide) (by omega), Nat.add_comm]
theorem limited_any (p : Option Addr) (n c : Nat) (_ : n ≤ 9223372036854775807) (_ : n ≤ c) (w : World) : Calls Try.prog 28 #[.slice p n c] w fun e w' => e = .returned (.slice p n n) ∧ w = w' := by
  go_enter Try.func28, Try.ntmps28
  go_wp2_with fail
  go_ret
  exact ⟨rfl, rfl⟩
def Owned (B : Nat) (l : List UInt8) (w : World) (e : Ending) (w' : World) : Prop := ∃ v, e = .returned v ∧ w'.ownsRow B 5 1 v l.length (bv l) ∧ Below B w w'
theorem appended_any {B : Nat} (v : Value) (n : Nat) (l : List UInt8) (k : Int) (w : World) (H : App B w v n l) (hB : B ≤ w.heap.size) (hn : n < 140737488355000) (h : -9223372036854775808 ≤ k) (h2 : k ≤ 9223372036854775807) :
    Calls Try.prog 27 #[v, .int .i64 k] w (Owned B (l ++ enc k) w) := by
  have hu := numZ_lt h h2
  have HB := Lib.hid hB
  have HA := Lib.hid H
  clear hB H
  go_enter Try.func27, Try.ntmps27
  go_wp2_with (refine (number_any k _ h h2).mono ?_; rintro e w1 ⟨rfl, rfl⟩)
  go_loopw [0, 5] (fun v u wr => ∃ (n' : Nat) (l' : List UInt8) (U : Nat), Hid (App B wr v n' l') ∧ u = .int .u64 (U : Nat) ∧ Hid (Below B w wr) ∧ Hid (l' ++ encN U = l ++ enc k) ∧ U < 18446744073709551616) (fun _ u _ => (intOf u).toNat)
  case atStart => exact ⟨n, l, numZ k, HA, rfl, Lib.hid (Below.refl _ _), Lib.hid rfl, hu⟩
  case round =>
    obtain ⟨n', l', U, HA1, rfl, HB1, HE, hU⟩ := hrel
    have hl : n' + (encN U).length = n + (enc k).length := by
      have := congrArg List.length HE.out
      rw [List.length_append, List.length_append, HA1.out.len, HA.out.len] at this
      exact this
    have h10 := (enc_len (n := k) ⟨h, h2⟩).2
    have hn' := Lib.hid (show n' < 140737488355328 by omega)
    clear hl h10
    by_cases hlt : U < 128
    · obtain ⟨v', w', hrun, ho, hb⟩ := run_app HA1.out (Nat.le_trans HB.out HB1.out.size) hn'.out (UInt8.ofNat U) (U : Int) (by rw [byte_of (by omega)])
      have HR : Hid (Owned B (l ++ enc k) w (.returned v') w') := by
        refine Lib.hid ⟨v', rfl, ?_, HB1.out.trans hb⟩
        have e := HE.out
        rw [encN_small hlt] at e
        rw [e] at ho
        rwa [← own_len ho, bv_len] at ho
      clear ho hb
      have g1 : (U : Int) < 128 := by omega
      have g0 : (0 : Int) ≤ (U : Int) := by omega
      have g2 : decide ((128 : Int) ≤ (U : Int)) = false := decide_eq_false (by omega)
      clear hlt hU hu hn
      go_wp2_with (at_builtin; refine Lib.wpList_append_run _ rfl _ _ _ _ rfl _ _ rfl rfl _ _ hrun ?_)
      go_ret
      exact HR.out
    · obtain ⟨v', w', hrun, ho, hb⟩ := run_app HA1.out (Nat.le_trans HB.out HB1.out.size) hn'.out (UInt8.ofNat (U % 128 + 128)) (bits .or .u8 ((U : Int) % 128) 128) (or_128 U)
      have HO : Hid (App B w' v' (n' + 1) (l' ++ [UInt8.ofNat (U % 128 + 128)])) := Lib.hid (.inl ho)
      have HB2 : Hid (Below B w w') := Lib.hid (HB1.out.trans hb)
      have HE2 : Hid (l' ++ [UInt8.ofNat (U % 128 + 128)] ++ encN (U / 128) = l ++ enc k) := Lib.hid (by rw [← HE.out, encN_great hlt, List.append_assoc]; rfl)
      clear ho hb
      have g1 : (128 : Int) ≤ (U : Int) := by omega
      go_wp2_with (at_builtin; refine Lib.wpList_append_run _ rfl _ _ _ _ rfl _ _ rfl rfl _ _ hrun ?_)
      go_roundw
      case rel => exact ⟨n' + 1, _, U / 128, HO, by go_num, HB2, HE2, by omega⟩
      case measure => simp [intOf]; omega
end Go.Proofs.Ytnfddeoddjmpkaa.Co
