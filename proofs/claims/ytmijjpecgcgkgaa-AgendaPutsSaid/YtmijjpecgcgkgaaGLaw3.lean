/-
  The statement AgendaPuts, walked.
-/
import Derived.Test.YtmijjpecgcgkgaaGAwake2
import Derived.Test.YtmijjpecgcgkgaaGRef2
namespace Go.Proofs.Ytmijjpecgcgkgaa.Ag
open Go.RowKit
set_option maxHeartbeats 8000000
theorem puts_long (p : Option Addr) (n c : Nat) (x : Ev) (w : World) (h : 60 < n) : Calls Try.prog 5 #[.slice p n c, .agg #[.int .i64 x.t, .int .i64 x.p, .int .i64 x.f, .int .i64 x.s, .int .i64 x.st, .int .i64 x.k, .int .i64 x.a, .int .i64 x.b, .slice x.ap x.al x.ac]] w (Gives (.bool true) w) := by
  have h1 : (60 : Int) < (n : Int) := by omega
  clear h
  go_enter Try.func5, Try.ntmps5
  go_wp2_with fail
  refine (awake_any _).mono ?_
  rintro e w1 ⟨rfl, hb1⟩
  go_wp2_with fail
  go_ret
  exact ⟨rfl, by (repeat (first | (with_reducible exact Below.refl _ _) | (with_reducible assumption) | (with_reducible apply bl_alloc) | (with_reducible apply bl_drewN) | (with_reducible apply bl_drew) | (with_reducible refine bl_set ?_ (by first | (simp; done) | (simp; omega)) _) | (with_reducible refine bl_call ?_ (by assumption))))⟩
/-- How many of the events are the same as x. -/
def sc (F : Nat → Ev) (x : Ev) : Nat → Nat
  | 0 => 0
  | k + 1 => sc F x k + if sameB (F k) x = true then 1 else 0
theorem sc_le {F : Nat → Ev} {x : Ev} {k : Nat} : sc F x k ≤ k := by
  induction k with
  | zero => exact Nat.le_refl _
  | succ m ih =>
    show sc F x m + (if sameB (F m) x = true then 1 else 0) ≤ m + 1
    split <;> omega
theorem sc_one {F : Nat → Ev} {x : Ev} {m a : Nat} (ha : a < m) (h1 : sameB (F a) x = true) (h2 : ∀ i, i < m → i ≠ a → sameB (F i) x = false) : sc F x m = 1 := by
  have h0 : ∀ k, k ≤ a → sc F x k = 0 := by
    intro k
    induction k with
    | zero => intro _; rfl
    | succ r ih =>
      intro hr
      show sc F x r + (if sameB (F r) x = true then 1 else 0) = 0
      rw [ih (by omega), h2 r (by omega) (by omega)]; rfl
  have h3 : ∀ d, a + 1 + d ≤ m → sc F x (a + 1 + d) = 1 := by
    intro d
    induction d with
    | zero =>
      intro _
      show sc F x a + (if sameB (F a) x = true then 1 else 0) = 1
      rw [h0 a (Nat.le_refl _), h1]; rfl
    | succ r ih =>
      intro hr
      show sc F x (a + 1 + r) + (if sameB (F (a + 1 + r)) x = true then 1 else 0) = 1
      rw [ih (by omega), h2 (a + 1 + r) (by omega) (by omega)]; rfl
  have := h3 (m - (a + 1)) (by omega)
  rwa [show a + 1 + (m - (a + 1)) = m by omega] at this
theorem sc_ins {E F : Nat → Ev} {n a : Nat} {x : Ev} (hG : Good (insE E a x) (n + 1)) (ha : a ≤ n) (hq : ∀ i, i < n + 1 → Eqv (F i) (insE E a x i)) : sc F x (n + 1) = 1 := by
  have hx : insE E a x a = x := by unfold insE; rw [if_neg (by omega), if_pos rfl]
  refine sc_one (a := a) (by omega) (sameB_iff.2 (by have := hq a (by omega); rwa [hx] at this)) fun i hi hne => ?_
  cases h : sameB (F i) x
  · rfl
  · have h1 := (hq i hi).symm.trans (sameB_iff.1 h)
    have h2 : Tie (insE E a x i) (insE E a x a) := by rw [hx]; exact h1.toTie
    rcases Nat.lt_or_ge i a with g | g
    · have := hG.lt g (by omega); unfold Lt Tie at *; omega
    · have := hG.lt (by omega : a < i) hi; unfold Lt Tie at *; omega
theorem puts_short (p : Option Addr) (n c M : Nat) (Z : Int) (G : Nat → Ev) (x : Ev) (w : World) (h : (n : Int) ≤ 60) (hM : M ≤ 20000) (hx : ok w x)
    (P1 : Hid (∀ w2, Below w.heap.size w w2 → Calls Try.prog 18 #[.slice p n c, .agg #[.int .i64 x.t, .int .i64 x.p, .int .i64 x.f, .int .i64 x.s, .int .i64 x.st, .int .i64 x.k, .int .i64 x.a, .int .i64 x.b, .slice x.ap x.al x.ac]] w2 (ListsZ w2 M Z G))) (P2 : Hid (∀ w2, Below w.heap.size w w2 → Calls Try.prog 19 #[.slice p n c, .agg #[.int .i64 x.t, .int .i64 x.p, .int .i64 x.f, .int .i64 x.s, .int .i64 x.st, .int .i64 x.k, .int .i64 x.a, .int .i64 x.b, .slice x.ap x.al x.ac]] w2 (ListsZ w2 M Z G)))
    (hz : Hid (Z ≠ 0 ∨ Z = 0 ∧ Good G M ∧ ∀ F, (∀ i, i < M → Eqv (F i) (G i)) → sc F x M = 1)) : Calls Try.prog 5 #[.slice p n c, .agg #[.int .i64 x.t, .int .i64 x.p, .int .i64 x.f, .int .i64 x.s, .int .i64 x.st, .int .i64 x.k, .int .i64 x.a, .int .i64 x.b, .slice x.ap x.al x.ac]] w (Gives (.bool true) w) := by
  have X0 : nine (w.alloc (.cells #[.int .i64 x.t, .int .i64 x.p, .int .i64 x.f, .int .i64 x.s, .int .i64 x.st, .int .i64 x.k, .int .i64 x.a, .int .i64 x.b, .slice x.ap x.al x.ac] 25)) w.heap.size x := nine.new
  go_enter Try.func5, Try.ntmps5
  go_wp2_with fail
  refine (P1.out _ (by (repeat (first | (with_reducible exact Below.refl _ _) | (with_reducible assumption) | (with_reducible apply bl_alloc) | (with_reducible apply bl_drewN) | (with_reducible apply bl_drew) | (with_reducible refine bl_set ?_ (by first | (simp; done) | (simp; omega)) _) | (with_reducible refine bl_call ?_ (by assumption)))))).mono ?_
  rintro e w1 ⟨p1, c1, F1, rfl, hW1, hF1, hq1, hb1⟩
  have X1 := nine.on hb1 X0
  have HQ1 := Lib.hid hq1
  clear hq1 X0
  obtain ⟨x0, x1, x2, x3, x4, x5, x6, x7, x8, x9⟩ := X1
  have X1 : nine _ _ _ := ⟨x0, x1, x2, x3, x4, x5, x6, x7, x8, x9⟩
  go_wp2_with fail
  refine (P2.out _ (by (repeat (first | (with_reducible exact Below.refl _ _) | (with_reducible assumption) | (with_reducible apply bl_alloc) | (with_reducible apply bl_drewN) | (with_reducible apply bl_drew) | (with_reducible refine bl_set ?_ (by first | (simp; done) | (simp; omega)) _) | (with_reducible refine bl_call ?_ (by assumption)))))).mono ?_
  rintro e w2 ⟨p2, c2, F2, rfl, hW2, hF2, hq2, hb2⟩
  have X2 := nine.on hb2 X1
  have HQ2 := Lib.hid hq2
  have hF1 := Evs.on hb2 hF1
  clear hq2 x0 x1 x2 x3 x4 x5 x6 x7 x8 x9 X1
  go_wp2_with fail
  refine (all_same p1 p2 M c1 c2 F1 F2 _ hF1 hF2 hM (fun i hi => (HQ1.out i hi).trans (HQ2.out i hi).symm)).mono ?_
  rintro e w3 ⟨rfl, hb3⟩
  have X3 := nine.on hb3 X2
  have hF1 := Evs.on hb3 hF1
  clear hF2 X2 HQ2
  have B3 : Below w.heap.size w w3 := by (repeat (first | (with_reducible exact Below.refl _ _) | (with_reducible assumption) | (with_reducible apply bl_alloc) | (with_reducible apply bl_drewN) | (with_reducible apply bl_drew) | (with_reducible refine bl_set ?_ (by first | (simp; done) | (simp; omega)) _) | (with_reducible refine bl_call ?_ (by assumption))))
  rcases hz.out with hz1 | ⟨rfl, hG, hS⟩
  · have hz2 : (Z != 0) = true := by rw [bne_iff_ne]; exact hz1
    clear hz1
    go_wp2_with fail
    refine (awake_any _).mono ?_
    rintro e w4 ⟨rfl, hb4⟩
    go_wp2_with fail
    go_ret
    exact ⟨rfl, by (repeat (first | (with_reducible exact Below.refl _ _) | (with_reducible assumption) | (with_reducible apply bl_alloc) | (with_reducible apply bl_drewN) | (with_reducible apply bl_drew) | (with_reducible refine bl_set ?_ (by first | (simp; done) | (simp; omega)) _) | (with_reducible refine bl_call ?_ (by assumption))))⟩
  · have CK : Hid (chkE F1 M = 0) := Lib.hid (chkE_zero.2 (hG.congr HQ1.out))
    have HS := Lib.hid (hS F1 HQ1.out)
    clear hG hS
    go_wp2_with fail
    go_loopw [9, 10] (fun u i wr => ∃ k m : Nat, k ≤ M ∧ i = .int .i64 k ∧ u = .int .i64 m ∧ Hid (m = sc F1 x k) ∧ Below w3.heap.size w3 wr) (fun _ i _ => M - (intOf i).toNat)
    case atStart => exact ⟨0, 0, Nat.zero_le _, rfl, rfl, Lib.hid rfl, Below.refl _ _⟩
    case round =>
      obtain ⟨k, m, hk, rfl, rfl, HM, hb0⟩ := hrel
      have c0 : (0 : Int) ≤ (k : Int) := by omega
      have m0 : m ≤ k := by rw [HM.out]; exact sc_le
      have wk : IntKind.i64.wrap ((k : Int) + 1) = ((k + 1 : Nat) : Int) := by rw [IntKind.wrap_i64]; omega
      have wm : IntKind.i64.wrap ((m : Int) + 1) = ((m + 1 : Nat) : Int) := by rw [IntKind.wrap_i64]; omega
      rcases Nat.lt_or_ge k M with h | h
      · have c2' : (k : Int) < (M : Int) := by omega
        obtain ⟨hl, h0 | ⟨b, o, rfl, hb, hc⟩⟩ := hF1.on hb0
        · omega
        have CE := (hc.out k h).1
        have RE := (hc.out k h).2
        have XR := nine.on hb0 X3
        have BW := bl_call B3 hb0
        have RX : ok wr.drew x := Row.drew (Row.on BW hx)
        obtain ⟨e0, e1, e2, e3, e4, e5, e6, e7, e8⟩ := CE
        obtain ⟨x0, x1, x2, x3, x4, x5, x6, x7, x8, x9⟩ := XR
        go_wp2_with fail
        refine region_still_tail 5 (by kernel_rfl) (by kernel_rfl) ?_
        simp only [List.take_succ_cons, List.take_zero, List.drop_succ_cons, List.drop_zero]
        iterate 5 still_step
        refine wpStill_nil ?_
        go_wp2_with fail
        refine (same_any (F1 k) x wr.drew RE RX).mono ?_
        rintro e w4 ⟨rfl, hb4⟩
        cases hs : sameB (F1 k) x
        · have HM2 : Hid (m = sc F1 x (k + 1)) := Lib.hid (by show m = sc F1 x k + (if sameB (F1 k) x = true then 1 else 0); rw [hs, HM.out]; rfl)
          clear hs
          go_wp2_with fail
          go_roundw
          case rel => exact ⟨k + 1, m, by omega, rfl, rfl, HM2, by (repeat (first | (with_reducible exact Below.refl _ _) | (with_reducible assumption) | (with_reducible apply bl_alloc) | (with_reducible apply bl_drewN) | (with_reducible apply bl_drew) | (with_reducible refine bl_set ?_ (by first | (simp; done) | (simp; omega)) _) | (with_reducible refine bl_call ?_ (by assumption))))⟩
          case measure => simp [intOf]; omega
        · have HM2 : Hid (m + 1 = sc F1 x (k + 1)) := Lib.hid (by show m + 1 = sc F1 x k + (if sameB (F1 k) x = true then 1 else 0); rw [hs, HM.out]; rfl)
          clear hs
          go_wp2_with fail
          go_roundw
          case rel => exact ⟨k + 1, m + 1, by omega, rfl, rfl, HM2, by (repeat (first | (with_reducible exact Below.refl _ _) | (with_reducible assumption) | (with_reducible apply bl_alloc) | (with_reducible apply bl_drewN) | (with_reducible apply bl_drew) | (with_reducible refine bl_set ?_ (by first | (simp; done) | (simp; omega)) _) | (with_reducible refine bl_call ?_ (by assumption))))⟩
          case measure => simp [intOf]; omega
      · obtain rfl : M = k := by omega
        obtain rfl : m = 1 := by rw [HM.out, HS.out]
        have c2' : (M : Int) ≤ (M : Int) := by omega
        go_wp2_with fail
        refine (check_any p1 M c1 F1 _ (hF1.on hb0)).mono ?_
        rintro e w4 ⟨rfl, hb4⟩
        rw [CK.out]
        go_wp2_with fail
        refine (awake_any _).mono ?_
        rintro e w5 ⟨rfl, hb5⟩
        go_wp2_with fail
        go_ret
        exact ⟨rfl, by (repeat (first | (with_reducible exact Below.refl _ _) | (with_reducible assumption) | (with_reducible apply bl_alloc) | (with_reducible apply bl_drewN) | (with_reducible apply bl_drew) | (with_reducible refine bl_set ?_ (by first | (simp; done) | (simp; omega)) _) | (with_reducible refine bl_call ?_ (by assumption))))⟩
theorem agendaPuts_walk (p : Option Addr) (n c : Nat) (E : Nat → Ev) (x : Ev) (w : World) (hW : WL p n c) (hE : Evs w p n E) (hx : ok w x) : Calls Try.prog 5 #[.slice p n c, .agg #[.int .i64 x.t, .int .i64 x.p, .int .i64 x.f, .int .i64 x.s, .int .i64 x.st, .int .i64 x.k, .int .i64 x.a, .int .i64 x.b, .slice x.ap x.al x.ac]] w (Gives (.bool true) w) := by
  by_cases h : 60 < n
  · exact puts_long p n c x w h
  · refine puts_short p n c (putN E n x) (putE E n x) (insE E (cnt E x n) x) x w (by omega) (by unfold putN; split <;> omega) hx (Lib.hid fun w2 hb => put_any p n c E x w2 (hE.on hb) hW (Row.on hb hx)) (Lib.hid fun w2 hb => rput_any p n c E x w2 (hE.on hb) hW (Row.on hb hx)) (Lib.hid ?_)
    by_cases hz : putE E n x = 0
    · rcases putE_cases E n x with ⟨h1, h2⟩ | ⟨h1, h2, h3⟩ | ⟨h1, h2, h3⟩ | ⟨h1, h2, h3, h4, h5⟩
      · exact absurd (h2 ▸ hz) h1
      · exact absurd (h3 ▸ hz) h2
      · rcases h3 with ⟨-, h3⟩ | ⟨-, -, h3⟩ <;> (rw [h3] at hz; cases hz)
      · have hG := ins_good (chkE_zero.1 h1) h2 h3 h4
        have hN : putN E n x = n + 1 := by unfold putN; rw [if_pos hz]
        rw [hN]
        exact .inr ⟨hz, hG, fun F hF => sc_ins hG cnt_le hF⟩
    · exact .inl hz
end Go.Proofs.Ytmijjpecgcgkgaa.Ag
