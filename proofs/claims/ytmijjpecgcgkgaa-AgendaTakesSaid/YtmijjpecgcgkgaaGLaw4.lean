/-
  The statement AgendaTakes, walked.
-/
import Derived.Test.YtmijjpecgcgkgaaGAwake2
import Derived.Test.YtmijjpecgcgkgaaGRef4
namespace Go.Proofs.Ytmijjpecgcgkgaa.Ag
open Go.RowKit
set_option maxHeartbeats 8000000
theorem takes_long (p : Option Addr) (n c : Nat) (v t : Int) (w : World) (h : 60 < n) : Calls Try.prog 6 #[.slice p n c, .int .i64 v, .int .i64 t] w (Gives (.bool true) w) := by
  have h1 : (60 : Int) < (n : Int) := by omega
  clear h
  go_enter Try.func6, Try.ntmps6
  go_wp2_with fail
  refine (awake_any _).mono ?_
  rintro e w1 ⟨rfl, hb1⟩
  go_wp2_with fail
  go_ret
  exact ⟨rfl, by (repeat (first | (with_reducible exact Below.refl _ _) | (with_reducible assumption) | (with_reducible apply bl_alloc) | (with_reducible apply bl_drewN) | (with_reducible apply bl_drew) | (with_reducible refine bl_set ?_ (by first | (simp; done) | (simp; omega)) _) | (with_reducible refine bl_call ?_ (by assumption))))⟩
theorem takes_short (p : Option Addr) (n c : Nat) (v t : Int) (M MU MD : Nat) (z zd : Bool) (X XD : Ev) (G GU GD : Nat → Ev) (w : World) (h : (n : Int) ≤ 60) (hM : M ≤ 20000) (hU : MU ≤ 20000) (hD : MD ≤ 20000)
    (N1 : Hid (∀ w2, Below w.heap.size w w2 → Calls Try.prog 21 #[.slice p n c] w2 (EvLists w2 M z X G))) (N2 : Hid (∀ w2, Below w.heap.size w w2 → Calls Try.prog 22 #[.slice p n c] w2 (EvListR w2 M z X G)))
    (U1 : Hid (∀ w2, Below w.heap.size w w2 → Calls Try.prog 23 #[.slice p n c, .int .i64 t] w2 (Lists w2 MU GU))) (U2 : Hid (∀ w2, Below w.heap.size w w2 → Calls Try.prog 24 #[.slice p n c, .int .i64 t] w2 (ListR w2 MU GU)))
    (D1 : Hid (∀ w2, Below w.heap.size w w2 → Calls Try.prog 25 #[.slice p n c, .int .i64 v] w2 (ListEv w2 MD zd XD GD))) (D2 : Hid (∀ w2, Below w.heap.size w w2 → Calls Try.prog 26 #[.slice p n c, .int .i64 v] w2 (ListEvR w2 MD zd XD GD)))
    (XO : Hid (∀ w2, Below w.heap.size w w2 → ok w2 X)) (DO : Hid (∀ w2, Below w.heap.size w w2 → ok w2 XD)) : Calls Try.prog 6 #[.slice p n c, .int .i64 v, .int .i64 t] w (Gives (.bool true) w) := by
  go_enter Try.func6, Try.ntmps6
  go_wp2_with fail
  refine (N1.out _ (by (repeat (first | (with_reducible exact Below.refl _ _) | (with_reducible assumption) | (with_reducible apply bl_alloc) | (with_reducible apply bl_drewN) | (with_reducible apply bl_drew) | (with_reducible refine bl_set ?_ (by first | (simp; done) | (simp; omega)) _) | (with_reducible refine bl_call ?_ (by assumption)))))).mono ?_
  rintro e w1 ⟨y, q1, d1, F1, rfl, hy, hoy, -, hF1, hq1, hb1⟩
  have Y1 : nine (w1.alloc (.cells #[.int .i64 y.t, .int .i64 y.p, .int .i64 y.f, .int .i64 y.s, .int .i64 y.st, .int .i64 y.k, .int .i64 y.a, .int .i64 y.b, .slice y.ap y.al y.ac] 25)) w1.heap.size y := nine.new
  have HY := Lib.hid hy
  have HQ1 := Lib.hid hq1
  have hF1 := hF1.alloc (o := .cells #[.int .i64 y.t, .int .i64 y.p, .int .i64 y.f, .int .i64 y.s, .int .i64 y.st, .int .i64 y.k, .int .i64 y.a, .int .i64 y.b, .slice y.ap y.al y.ac] 25)
  have HOY : ok (w1.alloc (.cells #[.int .i64 y.t, .int .i64 y.p, .int .i64 y.f, .int .i64 y.s, .int .i64 y.st, .int .i64 y.k, .int .i64 y.a, .int .i64 y.b, .slice y.ap y.al y.ac] 25)) y := Row.alloc hoy
  clear hy hq1 hoy
  go_wp2_with fail
  refine (N2.out _ (by (repeat (first | (with_reducible exact Below.refl _ _) | (with_reducible assumption) | (with_reducible apply bl_alloc) | (with_reducible apply bl_drewN) | (with_reducible apply bl_drew) | (with_reducible refine bl_set ?_ (by first | (simp; done) | (simp; omega)) _) | (with_reducible refine bl_call ?_ (by assumption)))))).mono ?_
  rintro e w2 ⟨q2, d2, rfl, hF2, hb2⟩
  have X2 : nine (w2.alloc (.cells #[.int .i64 X.t, .int .i64 X.p, .int .i64 X.f, .int .i64 X.s, .int .i64 X.st, .int .i64 X.k, .int .i64 X.a, .int .i64 X.b, .slice X.ap X.al X.ac] 25)) w2.heap.size X := nine.new
  have Y2 := (nine.on hb2 Y1).alloc (o := .cells #[.int .i64 X.t, .int .i64 X.p, .int .i64 X.f, .int .i64 X.s, .int .i64 X.st, .int .i64 X.k, .int .i64 X.a, .int .i64 X.b, .slice X.ap X.al X.ac] 25)
  have hF1 := (Evs.on hb2 hF1).alloc (o := .cells #[.int .i64 X.t, .int .i64 X.p, .int .i64 X.f, .int .i64 X.s, .int .i64 X.st, .int .i64 X.k, .int .i64 X.a, .int .i64 X.b, .slice X.ap X.al X.ac] 25)
  have hF2 := hF2.alloc (o := .cells #[.int .i64 X.t, .int .i64 X.p, .int .i64 X.f, .int .i64 X.s, .int .i64 X.st, .int .i64 X.k, .int .i64 X.a, .int .i64 X.b, .slice X.ap X.al X.ac] 25)
  have HOY : ok (w2.alloc (.cells #[.int .i64 X.t, .int .i64 X.p, .int .i64 X.f, .int .i64 X.s, .int .i64 X.st, .int .i64 X.k, .int .i64 X.a, .int .i64 X.b, .slice X.ap X.al X.ac] 25)) y := Row.alloc (Row.on hb2 HOY)
  have B2 : Below w.heap.size w (w2.alloc (.cells #[.int .i64 X.t, .int .i64 X.p, .int .i64 X.f, .int .i64 X.s, .int .i64 X.st, .int .i64 X.k, .int .i64 X.a, .int .i64 X.b, .slice X.ap X.al X.ac] 25)) := by (repeat (first | (with_reducible exact Below.refl _ _) | (with_reducible assumption) | (with_reducible apply bl_alloc) | (with_reducible apply bl_drewN) | (with_reducible apply bl_drew) | (with_reducible refine bl_set ?_ (by first | (simp; done) | (simp; omega)) _) | (with_reducible refine bl_call ?_ (by assumption))))
  clear Y1
  obtain ⟨a0, a1, a2, a3, a4, a5, a6, a7, a8, a9⟩ := Y2
  obtain ⟨b0, b1, b2, b3, b4, b5, b6, b7, b8, b9⟩ := X2
  have HSY := Lib.hid (sameB_iff.2 HY.out)
  go_wp2_with fail
  refine (same_any y X _ HOY (XO.out _ B2)).mono ?_
  rintro e w3 ⟨rfl, hb3⟩
  rw [HSY.out]
  have hF1 := Evs.on hb3 hF1
  have hF2 := Evs.on hb3 hF2
  clear a0 a1 a2 a3 a4 a5 a6 a7 a8 a9 b0 b1 b2 b3 b4 b5 b6 b7 b8 b9 HOY
  go_wp2_with fail
  refine (all_same q1 q2 M d1 d2 F1 G _ hF1 hF2 hM HQ1.out).mono ?_
  rintro e w4 ⟨rfl, hb4⟩
  have B4 : Below w.heap.size w w4 := by (repeat (first | (with_reducible exact Below.refl _ _) | (with_reducible assumption) | (with_reducible apply bl_alloc) | (with_reducible apply bl_drewN) | (with_reducible apply bl_drew) | (with_reducible refine bl_set ?_ (by first | (simp; done) | (simp; omega)) _) | (with_reducible refine bl_call ?_ (by assumption))))
  clear hF1 hF2
  have hzz : (z != z) = false := by cases z <;> rfl
  go_wp2_with fail
  refine (U1.out _ B4).mono ?_
  rintro e w5 ⟨q5, d5, F5, rfl, -, hF5, hq5, hb5, -⟩
  have HQ5 := Lib.hid hq5
  clear hq5
  have B5 : Below w.heap.size w w5 := by (repeat (first | (with_reducible exact Below.refl _ _) | (with_reducible assumption) | (with_reducible apply bl_alloc) | (with_reducible apply bl_drewN) | (with_reducible apply bl_drew) | (with_reducible refine bl_set ?_ (by first | (simp; done) | (simp; omega)) _) | (with_reducible refine bl_call ?_ (by assumption))))
  go_wp2_with fail
  refine (U2.out _ B5).mono ?_
  rintro e w6 ⟨q6, d6, rfl, hF6, hb6⟩
  have hF5 := Evs.on hb6 hF5
  go_wp2_with fail
  refine (all_same q5 q6 MU d5 d6 F5 GU _ hF5 hF6 hU HQ5.out).mono ?_
  rintro e w7 ⟨rfl, hb7⟩
  have B7 : Below w.heap.size w w7 := by (repeat (first | (with_reducible exact Below.refl _ _) | (with_reducible assumption) | (with_reducible apply bl_alloc) | (with_reducible apply bl_drewN) | (with_reducible apply bl_drew) | (with_reducible refine bl_set ?_ (by first | (simp; done) | (simp; omega)) _) | (with_reducible refine bl_call ?_ (by assumption))))
  clear hF5 hF6
  go_wp2_with fail
  refine (D1.out _ B7).mono ?_
  rintro e w8 ⟨u, q8, d8, F8, rfl, hu, hou, -, hF8, hq8, hb8⟩
  have U8 : nine (w8.alloc (.cells #[.int .i64 u.t, .int .i64 u.p, .int .i64 u.f, .int .i64 u.s, .int .i64 u.st, .int .i64 u.k, .int .i64 u.a, .int .i64 u.b, .slice u.ap u.al u.ac] 25)) w8.heap.size u := nine.new
  have HU := Lib.hid hu
  have HQ8 := Lib.hid hq8
  have hF8 := hF8.alloc (o := .cells #[.int .i64 u.t, .int .i64 u.p, .int .i64 u.f, .int .i64 u.s, .int .i64 u.st, .int .i64 u.k, .int .i64 u.a, .int .i64 u.b, .slice u.ap u.al u.ac] 25)
  have HOU : ok (w8.alloc (.cells #[.int .i64 u.t, .int .i64 u.p, .int .i64 u.f, .int .i64 u.s, .int .i64 u.st, .int .i64 u.k, .int .i64 u.a, .int .i64 u.b, .slice u.ap u.al u.ac] 25)) u := Row.alloc hou
  clear hu hq8 hou
  have B8 : Below w.heap.size w (w8.alloc (.cells #[.int .i64 u.t, .int .i64 u.p, .int .i64 u.f, .int .i64 u.s, .int .i64 u.st, .int .i64 u.k, .int .i64 u.a, .int .i64 u.b, .slice u.ap u.al u.ac] 25)) := by (repeat (first | (with_reducible exact Below.refl _ _) | (with_reducible assumption) | (with_reducible apply bl_alloc) | (with_reducible apply bl_drewN) | (with_reducible apply bl_drew) | (with_reducible refine bl_set ?_ (by first | (simp; done) | (simp; omega)) _) | (with_reducible refine bl_call ?_ (by assumption))))
  go_wp2_with fail
  refine (D2.out _ B8).mono ?_
  rintro e w9 ⟨q9, d9, rfl, hF9, hb9⟩
  have X9 : nine (w9.alloc (.cells #[.int .i64 XD.t, .int .i64 XD.p, .int .i64 XD.f, .int .i64 XD.s, .int .i64 XD.st, .int .i64 XD.k, .int .i64 XD.a, .int .i64 XD.b, .slice XD.ap XD.al XD.ac] 25)) w9.heap.size XD := nine.new
  have U9 := (nine.on hb9 U8).alloc (o := .cells #[.int .i64 XD.t, .int .i64 XD.p, .int .i64 XD.f, .int .i64 XD.s, .int .i64 XD.st, .int .i64 XD.k, .int .i64 XD.a, .int .i64 XD.b, .slice XD.ap XD.al XD.ac] 25)
  have hF8 := (Evs.on hb9 hF8).alloc (o := .cells #[.int .i64 XD.t, .int .i64 XD.p, .int .i64 XD.f, .int .i64 XD.s, .int .i64 XD.st, .int .i64 XD.k, .int .i64 XD.a, .int .i64 XD.b, .slice XD.ap XD.al XD.ac] 25)
  have hF9 := hF9.alloc (o := .cells #[.int .i64 XD.t, .int .i64 XD.p, .int .i64 XD.f, .int .i64 XD.s, .int .i64 XD.st, .int .i64 XD.k, .int .i64 XD.a, .int .i64 XD.b, .slice XD.ap XD.al XD.ac] 25)
  have HOU : ok (w9.alloc (.cells #[.int .i64 XD.t, .int .i64 XD.p, .int .i64 XD.f, .int .i64 XD.s, .int .i64 XD.st, .int .i64 XD.k, .int .i64 XD.a, .int .i64 XD.b, .slice XD.ap XD.al XD.ac] 25)) u := Row.alloc (Row.on hb9 HOU)
  have B9 : Below w.heap.size w (w9.alloc (.cells #[.int .i64 XD.t, .int .i64 XD.p, .int .i64 XD.f, .int .i64 XD.s, .int .i64 XD.st, .int .i64 XD.k, .int .i64 XD.a, .int .i64 XD.b, .slice XD.ap XD.al XD.ac] 25)) := by (repeat (first | (with_reducible exact Below.refl _ _) | (with_reducible assumption) | (with_reducible apply bl_alloc) | (with_reducible apply bl_drewN) | (with_reducible apply bl_drew) | (with_reducible refine bl_set ?_ (by first | (simp; done) | (simp; omega)) _) | (with_reducible refine bl_call ?_ (by assumption))))
  clear U8
  go_wp2_with fail
  refine (all_same q8 q9 MD d8 d9 F8 GD _ hF8 hF9 hD HQ8.out).mono ?_
  rintro e w10 ⟨rfl, hb10⟩
  have X10 := nine.on hb10 X9
  have U10 := nine.on hb10 U9
  have HOU := Row.on hb10 HOU
  have B10 : Below w.heap.size w w10 := by (repeat (first | (with_reducible exact Below.refl _ _) | (with_reducible assumption) | (with_reducible apply bl_alloc) | (with_reducible apply bl_drewN) | (with_reducible apply bl_drew) | (with_reducible refine bl_set ?_ (by first | (simp; done) | (simp; omega)) _) | (with_reducible refine bl_call ?_ (by assumption))))
  clear hF8 hF9 X9 U9
  obtain ⟨a0, a1, a2, a3, a4, a5, a6, a7, a8, a9⟩ := U10
  obtain ⟨b0, b1, b2, b3, b4, b5, b6, b7, b8, b9⟩ := X10
  have HSU := Lib.hid (sameB_iff.2 HU.out)
  have hzd : (zd == zd) = true := by cases zd <;> rfl
  go_wp2_with fail
  refine (same_any u XD _ HOU (DO.out _ B10)).mono ?_
  rintro e w11 ⟨rfl, hb11⟩
  rw [HSU.out]
  clear a0 a1 a2 a3 a4 a5 a6 a7 a8 a9 b0 b1 b2 b3 b4 b5 b6 b7 b8 b9 HOU
  go_wp2_with fail
  refine (awake_any _).mono ?_
  rintro e w12 ⟨rfl, hb12⟩
  go_wp2_with fail
  go_ret
  exact ⟨rfl, by (repeat (first | (with_reducible exact Below.refl _ _) | (with_reducible assumption) | (with_reducible apply bl_alloc) | (with_reducible apply bl_drewN) | (with_reducible apply bl_drew) | (with_reducible refine bl_set ?_ (by first | (simp; done) | (simp; omega)) _) | (with_reducible refine bl_call ?_ (by assumption))))⟩
theorem lists_listr {w w' : World} {E : Nat → Ev} {e : Ending} (h : Lists w 0 E e w') : ListR w 0 E e w' := by
  obtain ⟨p, c, F, h1, -, -, -, h5, -⟩ := h
  exact ⟨p, c, h1, Evs.nil, h5⟩
theorem ok_zero {w : World} : ok w zeroEv := ok_at rfl
theorem agendaTakes_walk (p : Option Addr) (n c : Nat) (E : Nat → Ev) (v : Int) (_v0 : -9223372036854775808 ≤ v) (_v1 : v ≤ 9223372036854775807) (t : Int) (_t0 : -9223372036854775808 ≤ t) (_t1 : t ≤ 9223372036854775807) (w : World) (hW : WL p n c) (hE : Evs w p n E) : Calls Try.prog 6 #[.slice p n c, .int .i64 v, .int .i64 t] w (Gives (.bool true) w) := by
  by_cases h : 60 < n
  · exact takes_long p n c v t w h
  · by_cases hk : chkE E n = 0
    · have hG := chkE_zero.1 hk
      have hup := upn_le (E := E) (t := t) (n := n)
      have dd : ∀ w2, Below w.heap.size w w2 → Calls Try.prog 25 #[.slice p n c, .int .i64 v] w2 (ListEv w2 (dropM (idx E v n) n) (dropB (idx E v n)) (dropX (idx E v n) E) (dropE (idx E v n) E)) := by
        intro w2 hb
        rcases hi : idx E v n with - | a
        · exact drop_no p n c E v w2 (hE.on hb) (.inr ⟨hG, hi⟩)
        · exact drop_good p n c E v a w2 (hE.on hb) hW hG hi
      have dx : ∀ w2, Below w.heap.size w w2 → ok w2 (dropX (idx E v n) E) := by
        intro w2 hb
        rcases hi : idx E v n with - | a
        · exact ok_zero
        · exact (hE.on hb).get a (idx_lt hi)
      have dm : dropM (idx E v n) n ≤ 20000 := by
        have : dropM (idx E v n) n ≤ n := by rcases idx E v n with - | a <;> simp [dropM]
        omega
      by_cases hn : n = 0
      · exact takes_short p n c v t 0 (upn E t n) _ false _ zeroEv _ (fun i => E (1 + i)) E _ w (by omega) (by omega) (by omega) dm
          (Lib.hid fun w2 hb => next_no p n c E w2 (hE.on hb) (.inl hn)) (Lib.hid fun w2 hb => rnext_no p n c E w2 (hE.on hb) (.inr ⟨hG, hn⟩)) (Lib.hid fun w2 hb => upto_yes p n c E t w2 (hE.on hb) hW hG) (Lib.hid fun w2 hb => rupto_yes p n c E t w2 (hE.on hb) hW hG)
          (Lib.hid dd) (Lib.hid fun w2 hb => rdrop_yes p n c E v w2 (hE.on hb) hW hG) (Lib.hid fun w2 _ => ok_zero) (Lib.hid dx)
      · exact takes_short p n c v t (n - 1) (upn E t n) _ true _ (E 0) _ (fun i => E (1 + i)) E _ w (by omega) (by omega) (by omega) dm
          (Lib.hid fun w2 hb => next_good p n c E w2 (hE.on hb) hW hn hG) (Lib.hid fun w2 hb => rnext_yes p n c E w2 (hE.on hb) hW hn hG) (Lib.hid fun w2 hb => upto_yes p n c E t w2 (hE.on hb) hW hG) (Lib.hid fun w2 hb => rupto_yes p n c E t w2 (hE.on hb) hW hG)
          (Lib.hid dd) (Lib.hid fun w2 hb => rdrop_yes p n c E v w2 (hE.on hb) hW hG) (Lib.hid fun w2 hb => (hE.on hb).get 0 (by omega)) (Lib.hid dx)
    · have hn : n ≠ 0 := fun h0 => hk (by subst h0; rfl)
      exact takes_short p n c v t 0 0 0 false false zeroEv zeroEv (fun i => E (1 + i)) E E w (by omega) (by omega) (by omega) (by omega)
        (Lib.hid fun w2 hb => next_no p n c E w2 (hE.on hb) (.inr ⟨hn, hk⟩)) (Lib.hid fun w2 hb => rnext_no p n c E w2 (hE.on hb) (.inl hk)) (Lib.hid fun w2 hb => upto_no p n c E t w2 (hE.on hb) hk) (Lib.hid fun w2 hb => (rupto_no p n c E t w2 (hE.on hb) hk).mono fun _ _ h => lists_listr h)
        (Lib.hid fun w2 hb => drop_no p n c E v w2 (hE.on hb) (.inl hk)) (Lib.hid fun w2 hb => rdrop_no p n c E v w2 (hE.on hb) hk) (Lib.hid fun w2 _ => ok_zero) (Lib.hid fun w2 _ => ok_zero)
end Go.Proofs.Ytmijjpecgcgkgaa.Ag
