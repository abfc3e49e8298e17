/-
  The contracts of the reference's Next, Upto and Drop.
-/
import Derived.Test.YtmijjpecgcgkgaaGRef
import Derived.Test.YtmijjpecgcgkgaaGCheck2
namespace Go.Proofs.Ytmijjpecgcgkgaa.Ag
open Go.RowKit
set_option maxHeartbeats 4000000
theorem rupto_no (p : Option Addr) (n c : Nat) (E : Nat → Ev) (t : Int) (w : World) (hE : Evs w p n E) (hz : chkE E n ≠ 0) : Calls Try.prog 24 #[.slice p n c, .int .i64 t] w (Lists w 0 E) := by
  have hz2 : (chkE E n != 0) = true := by rw [bne_iff_ne]; exact hz
  clear hz
  go_enter Try.func24, Try.ntmps24
  go_wp2_with fail
  refine (rcheck_any p n c E _ hE).mono ?_
  rintro e w1 ⟨rfl, hb1⟩
  go_wp2_with fail
  go_ret
  exact lists_nil rfl (by (repeat (first | (with_reducible exact Below.refl _ _) | (with_reducible assumption) | (with_reducible apply bl_alloc) | (with_reducible apply bl_drewN) | (with_reducible apply bl_drew) | (with_reducible refine bl_set ?_ (by first | (simp; done) | (simp; omega)) _) | (with_reducible refine bl_call ?_ (by assumption)))))
/-- A list with these events, wherever they lie. -/
def ListR (w : World) (n : Nat) (E : Nat → Ev) (e : Ending) (w' : World) : Prop := ∃ p c, e = .returned (.slice p n c) ∧ Evs w' p n E ∧ Below w.heap.size w w'
theorem rupto_yes (p : Option Addr) (n c : Nat) (E : Nat → Ev) (t : Int) (w : World) (hE : Evs w p n E) (hW : WL p n c) (hG : Good E n) : Calls Try.prog 24 #[.slice p n c, .int .i64 t] w (ListR w (upn E t n) E) := by
  have CK := Lib.hid (chkE_zero.2 hG)
  have HG := Lib.hid hG
  have hn5 := hG.1
  have hc := hW.1
  clear hG
  go_enter Try.func24, Try.ntmps24
  go_wp2_with fail
  refine (rcheck_any p n c E _ hE).mono ?_
  rintro e w1 ⟨rfl, hb1⟩
  rw [CK.out]
  have hE1 := hE.on hb1
  go_wp2_with fail
  go_loop [5] (fun i => ∃ k : Nat, k ≤ n ∧ i = .int .i64 k ∧ Hid (∀ q, q < k → (E q).t ≤ t)) (fun i => n - (intOf i).toNat)
  case atStart => exact ⟨0, Nat.zero_le _, rfl, Lib.hid fun q hq => absurd hq (Nat.not_lt_zero _)⟩
  case round =>
    obtain ⟨k, hk, rfl, HA⟩ := hrel
    have c0 : (0 : Int) ≤ (k : Int) := by omega
    have c1 : (k : Int) ≤ (c : Int) := by omega
    have c5 : (n : Int) ≤ 5000 := by omega
    rcases Nat.lt_or_ge k n with h | h
    · have c2 : (k : Int) < (n : Int) := by omega
      obtain ⟨hl, h0 | ⟨b, o, rfl, hb, hcell⟩⟩ := hE1
      · omega
      have e0 := (hcell.out k h).1.1
      by_cases ht : (E k).t ≤ t
      · have hd : decide ((E k).t ≤ t) = true := decide_eq_true ht
        have H := Lib.hid ht
        clear ht
        go_wp2_with fail
        go_round
        case rel => exact ⟨k + 1, by omega, by go_num, Lib.hid fun q hq => by
          by_cases e : q = k
          · subst e; exact H.out
          · exact HA.out q (by omega)⟩
        case measure => simp [intOf]; omega
      · have hd : decide ((E k).t ≤ t) = false := decide_eq_false ht
        have HU := Lib.hid (upn_eq (n := n) (by omega) HA.out (fun _ => by omega))
        have hEv : Evs w1 (some ⟨b, o, none⟩) k E := ⟨by omega, .inr ⟨b, o, rfl, hb, Lib.hid fun i hi => hcell.out i (by omega)⟩⟩
        clear ht
        go_wp2_with fail
        go_ret
        rw [HU.out]
        exact ⟨_, c, rfl, hEv, hb1⟩
    · obtain rfl : n = k := by omega
      have c2 : (n : Int) ≤ (n : Int) := by omega
      have HU := Lib.hid (upn_eq (n := n) (Nat.le_refl _) HA.out (fun h => absurd h (Nat.lt_irrefl _)))
      go_wp2_with fail
      go_ret
      rw [HU.out]
      exact ⟨_, c, rfl, hE1, hb1⟩
def EvListR (w : World) (m : Nat) (z : Bool) (x : Ev) (E : Nat → Ev) (e : Ending) (w' : World) : Prop := ∃ p c, e = .returned (.tuple #[.agg #[.int .i64 x.t, .int .i64 x.p, .int .i64 x.f, .int .i64 x.s, .int .i64 x.st, .int .i64 x.k, .int .i64 x.a, .int .i64 x.b, .slice x.ap x.al x.ac], .slice p m c, .bool z]) ∧ Evs w' p m E ∧ Below w.heap.size w w'
theorem evr_mk {w w' : World} {b o n c1 : Nat} {E : Nat → Ev} {x : Ev} {e : Ending} (he : e = .returned (.tuple #[.agg #[.int .i64 x.t, .int .i64 x.p, .int .i64 x.f, .int .i64 x.s, .int .i64 x.st, .int .i64 x.k, .int .i64 x.a, .int .i64 x.b, .slice x.ap x.al x.ac], .slice (some ⟨b, o + 9, none⟩) (n - 1) c1, .bool true])) (hE : Evs w (some ⟨b, o, none⟩) n E) (hn : 1 ≤ n) (hb : Below w.heap.size w w') : EvListR w (n - 1) true x (fun i => E (1 + i)) e w' :=
  ⟨_, c1, he, by have h := (hE.on hb).drop hn; rwa [Nat.one_mul] at h, hb⟩
theorem rnext_no (p : Option Addr) (n c : Nat) (E : Nat → Ev) (w : World) (hE : Evs w p n E) (h : chkE E n ≠ 0 ∨ Good E n ∧ n = 0) : Calls Try.prog 22 #[.slice p n c] w (EvListR w 0 false zeroEv (fun i => E (1 + i))) := by
  have Z0 : zblk (w.alloc (.cells #[.int .i64 0, .int .i64 0, .int .i64 0, .int .i64 0, .int .i64 0, .int .i64 0, .int .i64 0, .int .i64 0, .slice none 0 0] 25)) w.heap.size := zero_new
  rcases h with h | ⟨hG, h⟩
  · have hz2 : (chkE E n != 0) = true := by rw [bne_iff_ne]; exact h
    clear h
    go_enter Try.func22, Try.ntmps22
    go_wp2_with fail
    refine (rcheck_any p n c E _ hE.alloc).mono ?_
    rintro e w1 ⟨rfl, hb1⟩
    obtain ⟨ZN, f1⟩ := zblk.on hb1 Z0
    obtain ⟨z0, z1, z2, z3, z4, z5, z6, z7, z8, z9⟩ := ZN
    have ZN : nine _ _ _ := ⟨z0, z1, z2, z3, z4, z5, z6, z7, z8, z9⟩
    go_wp2_with fail
    exact bodyPost_ret (v := .tuple #[.agg #[.int .i64 0, .int .i64 0, .int .i64 0, .int .i64 0, .int .i64 0, .int .i64 0, .int .i64 0, .int .i64 0, .slice none 0 0], .slice none 0 0, .bool false]) (by simp [results, Try.results22, go_sem, *]) rfl ⟨none, 0, rfl, Evs.nil, by (repeat (first | (with_reducible exact Below.refl _ _) | (with_reducible assumption) | (with_reducible apply bl_alloc) | (with_reducible apply bl_drewN) | (with_reducible apply bl_drew) | (with_reducible refine bl_set ?_ (by first | (simp; done) | (simp; omega)) _) | (with_reducible refine bl_call ?_ (by assumption))))⟩
  · have CK := Lib.hid (chkE_zero.2 hG)
    subst h
    clear hG
    go_enter Try.func22, Try.ntmps22
    go_wp2_with fail
    refine (rcheck_any p 0 c E _ hE.alloc).mono ?_
    rintro e w1 ⟨rfl, hb1⟩
    rw [CK.out]
    obtain ⟨ZN, f1⟩ := zblk.on hb1 Z0
    obtain ⟨z0, z1, z2, z3, z4, z5, z6, z7, z8, z9⟩ := ZN
    have ZN : nine _ _ _ := ⟨z0, z1, z2, z3, z4, z5, z6, z7, z8, z9⟩
    go_wp2_with fail
    exact bodyPost_ret (v := .tuple #[.agg #[.int .i64 0, .int .i64 0, .int .i64 0, .int .i64 0, .int .i64 0, .int .i64 0, .int .i64 0, .int .i64 0, .slice none 0 0], .slice none 0 0, .bool false]) (by simp [results, Try.results22, go_sem, *]) rfl ⟨none, 0, rfl, Evs.nil, by (repeat (first | (with_reducible exact Below.refl _ _) | (with_reducible assumption) | (with_reducible apply bl_alloc) | (with_reducible apply bl_drewN) | (with_reducible apply bl_drew) | (with_reducible refine bl_set ?_ (by first | (simp; done) | (simp; omega)) _) | (with_reducible refine bl_call ?_ (by assumption))))⟩
theorem rnext_yes (p : Option Addr) (n c : Nat) (E : Nat → Ev) (w : World) (hE : Evs w p n E) (hW : WL p n c) (hn : n ≠ 0) (hG : Good E n) : Calls Try.prog 22 #[.slice p n c] w (EvListR w (n - 1) true (E 0) (fun i => E (1 + i))) := by
  have CK := Lib.hid (chkE_zero.2 hG)
  have hc := hW.1
  have Z0 : zblk (w.alloc (.cells #[.int .i64 0, .int .i64 0, .int .i64 0, .int .i64 0, .int .i64 0, .int .i64 0, .int .i64 0, .int .i64 0, .slice none 0 0] 25)) w.heap.size := zero_new
  have hz : ((n : Int) == 0) = false := by rw [beq_eq_false_iff_ne]; omega
  have nn : 0 < n := by omega
  have n1' : 1 ≤ n := by omega
  have n1 : (1 : Int) ≤ (n : Int) := by omega
  have n2 : (1 : Int) ≤ (c : Int) := by omega
  have n3 : (n : Int) ≤ (c : Int) := by omega
  have hbw : ∃ b o, p = some ⟨b, o, none⟩ ∧ b < w.heap.size := by
    obtain ⟨-, h0 | ⟨b, o, he, hb, -⟩⟩ := hE
    · omega
    · exact ⟨b, o, he, hb⟩
  obtain ⟨b, o, rfl, hbw⟩ := hbw
  have hne : b ≠ w.heap.size := by omega
  clear hG hW
  by_cases hca : c = 1
  · subst hca
    obtain rfl : n = 1 := by omega
    go_enter Try.func22, Try.ntmps22
    go_wp2_with fail
    refine (rcheck_any _ 1 1 E _ hE.alloc).mono ?_
    rintro e w1 ⟨rfl, hb1⟩
    rw [CK.out]
    obtain ⟨ZN, f1⟩ := zblk.on hb1 Z0
    have hE1 := hE.alloc.on hb1
    obtain ⟨hl, h0 | ⟨b', o', he, hb, hcell⟩⟩ := hE1
    · omega
    cases he
    have C1 : cell9 w1 b o (E 0) := by have := (hcell.out 0 (by omega)).1; rwa [Nat.zero_mul, Nat.add_zero] at this
    obtain ⟨e0, e1, e2, e3, e4, e5, e6, e7, e8⟩ := C1
    obtain ⟨z0, z1, z2, z3, z4, z5, z6, z7, z8, z9⟩ := ZN
    have ZN : nine _ _ _ := ⟨z0, z1, z2, z3, z4, z5, z6, z7, z8, z9⟩
    go_wp2_with fail
    go_region
    all_goals
      go_wp2_with fail
      exact bodyPost_ret (v := .tuple #[.agg #[.int .i64 (E 0).t, .int .i64 (E 0).p, .int .i64 (E 0).f, .int .i64 (E 0).s, .int .i64 (E 0).st, .int .i64 (E 0).k, .int .i64 (E 0).a, .int .i64 (E 0).b, .slice (E 0).ap (E 0).al (E 0).ac], .slice (some ⟨b, o, none⟩) 0 0, .bool true]) (by simp [results, Try.results22, go_sem, *]) rfl ⟨_, 0, rfl, Evs.nil, by (repeat (first | (with_reducible exact Below.refl _ _) | (with_reducible assumption) | (with_reducible apply bl_alloc) | (with_reducible apply bl_drewN) | (with_reducible apply bl_drew) | (with_reducible refine bl_set ?_ (by first | (simp; done) | (simp; omega)) _) | (with_reducible refine bl_call ?_ (by assumption))))⟩
  · go_enter Try.func22, Try.ntmps22
    go_wp2_with fail
    refine (rcheck_any _ n c E _ hE.alloc).mono ?_
    rintro e w1 ⟨rfl, hb1⟩
    rw [CK.out]
    obtain ⟨ZN, f1⟩ := zblk.on hb1 Z0
    have hE1 := hE.alloc.on hb1
    have HD := Lib.hid (hE1.drop (k := 1) (by omega))
    obtain ⟨hl, h0 | ⟨b', o', he, hb, hcell⟩⟩ := hE1
    · omega
    cases he
    have C1 : cell9 w1 b o (E 0) := by have := (hcell.out 0 (by omega)).1; rwa [Nat.zero_mul, Nat.add_zero] at this
    obtain ⟨e0, e1, e2, e3, e4, e5, e6, e7, e8⟩ := C1
    obtain ⟨z0, z1, z2, z3, z4, z5, z6, z7, z8, z9⟩ := ZN
    have ZN : nine _ _ _ := ⟨z0, z1, z2, z3, z4, z5, z6, z7, z8, z9⟩
    go_wp2_with fail
    go_region
    all_goals
      go_wp2_with fail
      refine bodyPost_ret (v := .tuple #[.agg #[.int .i64 (E 0).t, .int .i64 (E 0).p, .int .i64 (E 0).f, .int .i64 (E 0).s, .int .i64 (E 0).st, .int .i64 (E 0).k, .int .i64 (E 0).a, .int .i64 (E 0).b, .slice (E 0).ap (E 0).al (E 0).ac], .slice (some ⟨b, o + 9, none⟩) (n - 1) (c - 1), .bool true]) (by simp [results, Try.results22, go_sem, *]) rfl ?_
      exact evr_mk rfl hE n1' (by (repeat (first | (with_reducible exact Below.refl _ _) | (with_reducible assumption) | (with_reducible apply bl_alloc) | (with_reducible apply bl_drewN) | (with_reducible apply bl_drew) | (with_reducible refine bl_set ?_ (by first | (simp; done) | (simp; omega)) _) | (with_reducible refine bl_call ?_ (by assumption)))))
end Go.Proofs.Ytmijjpecgcgkgaa.Ag
