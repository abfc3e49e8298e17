/-
  The contract of the reference's Put.
-/
import Derived.Test.YtmijjpecgcgkgaaGRef
import Derived.Test.YtmijjpecgcgkgaaGCheck2
namespace Go.Proofs.Ytmijjpecgcgkgaa.Ag
open Go.RowKit
set_option maxHeartbeats 1500000
theorem rput_e1 (p : Option Addr) (n c : Nat) (E : Nat → Ev) (x : Ev) (w : World) (hE : Evs w p n E) (hz : chkE E n ≠ 0) : Calls Try.prog 19 #[.slice p n c, .agg #[.int .i64 x.t, .int .i64 x.p, .int .i64 x.f, .int .i64 x.s, .int .i64 x.st, .int .i64 x.k, .int .i64 x.a, .int .i64 x.b, .slice x.ap x.al x.ac]] w (ListsZ w 0 (chkE E n) E) := by
  have hz2 : (chkE E n != 0) = true := by rw [bne_iff_ne]; exact hz
  have hz3 : (chkE E n == 0) = false := by rw [beq_eq_false_iff_ne]; exact hz
  clear hz
  go_enter Try.func19, Try.ntmps19
  go_wp2_with fail
  refine (rcheck_any p n c E _ hE.alloc).mono ?_
  rintro e w1 ⟨rfl, hb1⟩
  go_wp2_with fail
  go_ret2
  exact ListsZ.none rfl (by (repeat (first | (with_reducible exact Below.refl _ _) | (with_reducible assumption) | (with_reducible apply bl_alloc) | (with_reducible apply bl_drewN) | (with_reducible apply bl_drew) | (with_reducible refine bl_set ?_ (by first | (simp; done) | (simp; omega)) _) | (with_reducible refine bl_call ?_ (by assumption)))))
theorem rput_e2 (p : Option Addr) (n c : Nat) (E : Nat → Ev) (x : Ev) (w : World) (hE : Evs w p n E) (hx : ok w x) (hk : chkE E n = 0) (hz : evE x ≠ 0) : Calls Try.prog 19 #[.slice p n c, .agg #[.int .i64 x.t, .int .i64 x.p, .int .i64 x.f, .int .i64 x.s, .int .i64 x.st, .int .i64 x.k, .int .i64 x.a, .int .i64 x.b, .slice x.ap x.al x.ac]] w (ListsZ w 0 (evE x) E) := by
  have hz2 : (evE x != 0) = true := by rw [bne_iff_ne]; exact hz
  have CK := Lib.hid hk
  have X0 : nine (w.alloc (.cells #[.int .i64 x.t, .int .i64 x.p, .int .i64 x.f, .int .i64 x.s, .int .i64 x.st, .int .i64 x.k, .int .i64 x.a, .int .i64 x.b, .slice x.ap x.al x.ac] 25)) w.heap.size x := nine.new
  clear hz hk
  go_enter Try.func19, Try.ntmps19
  go_wp2_with fail
  refine (rcheck_any p n c E _ hE.alloc).mono ?_
  rintro e w1 ⟨rfl, hb1⟩
  rw [CK.out]
  have X1 := nine.on hb1 X0
  obtain ⟨x0, x1, x2, x3, x4, x5, x6, x7, x8, x9⟩ := X1
  have X1 : nine _ _ _ := ⟨x0, x1, x2, x3, x4, x5, x6, x7, x8, x9⟩
  go_wp2_with fail
  refine (revent_any x _ (Row.on hb1 hx.alloc)).mono ?_
  rintro e w2 ⟨rfl, hb2⟩
  go_wp2_with fail
  go_ret2
  exact ListsZ.none rfl (by (repeat (first | (with_reducible exact Below.refl _ _) | (with_reducible assumption) | (with_reducible apply bl_alloc) | (with_reducible apply bl_drewN) | (with_reducible apply bl_drew) | (with_reducible refine bl_set ?_ (by first | (simp; done) | (simp; omega)) _) | (with_reducible refine bl_call ?_ (by assumption)))))
theorem cnt_step_t {E : Nat → Ev} {x : Ev} {k : Nat} (h : ltB (E k) x = true) : cnt E x (k + 1) = k + 1 := by show (if ltB (E k) x = true then k + 1 else cnt E x k) = _; rw [if_pos h]
theorem cnt_step_f {E : Nat → Ev} {x : Ev} {k : Nat} (h : ltB (E k) x = false) : cnt E x (k + 1) = cnt E x k := by show (if ltB (E k) x = true then k + 1 else cnt E x k) = _; rw [if_neg (by rw [h]; decide)]
theorem fnd_step {E : Nat → Ev} {x : Ev} {k : Nat} (h : fnd E x k = false) (h2 : ¬ Tie (E k) x) : fnd E x (k + 1) = false := by
  show (fnd E x k || (cmpI (E k) x == 0)) = false
  rw [h, Bool.false_or, beq_eq_false_iff_ne]
  exact fun h3 => h2 (cmpI_zero.1 h3)
theorem tie_of {x y : Ev} (h : ltB x y = false) (h2 : ltB y x = false) : Tie x y := by
  have h1 := ltB_false.1 h
  have h3 := ltB_false.1 h2
  unfold Lt at h1 h3
  unfold Tie
  omega
theorem notie_of {x y : Ev} (h : ltB x y = true ∨ ltB y x = true) : ¬ Tie x y := by
  rw [ltB_iff, ltB_iff] at h
  unfold Lt at h
  unfold Tie
  omega
theorem put_tie {E : Nat → Ev} {n : Nat} {x : Ev} (hG : Good E n) (he : evE x = 0) (hf : fnd E x n = true) : putN E n x = 0 ∧ putE E n x = 4 := by
  have h : putE E n x = 4 := by unfold putE; rw [if_pos (chkE_zero.2 hG), if_pos he, if_pos hf]
  exact ⟨by unfold putN; rw [h]; rfl, h⟩
theorem put_full {E : Nat → Ev} {n : Nat} {x : Ev} (hG : Good E n) (he : evE x = 0) (hf : fnd E x n = false) (h5 : n = 5000) : putN E n x = 0 ∧ putE E n x = 13 := by
  have h : putE E n x = 13 := by unfold putE; rw [if_pos (chkE_zero.2 hG), if_pos he, if_neg (by rw [hf]; decide), if_pos h5]
  exact ⟨by unfold putN; rw [h]; rfl, h⟩
theorem put_ok {E : Nat → Ev} {n : Nat} {x : Ev} (hG : Good E n) (he : evE x = 0) (hf : fnd E x n = false) (h5 : n ≠ 5000) : putN E n x = n + 1 ∧ putE E n x = 0 := by
  have h : putE E n x = 0 := by unfold putE; rw [if_pos (chkE_zero.2 hG), if_pos he, if_neg (by rw [hf]; decide), if_neg h5]
  exact ⟨by unfold putN; rw [h]; rfl, h⟩
theorem own_evs {lo : Nat} {w : World} {v : Value} {N : Nat} {F : Nat → Ev} (h : w.ownsRow lo 25 9 v N (flat F N)) (hN : 0 < N) (hN2 : N ≤ 20000) (hok : ∀ i, i < N → ok w (F i)) : ∃ g d, v = .slice (some ⟨g, 0, none⟩) N d ∧ WL (some ⟨g, 0, none⟩) N d ∧ Evs w (some ⟨g, 0, none⟩) N F := by
  rcases h.2 with ⟨-, h0⟩ | ⟨g, cap, cur, rfl, hg, hcur, hcap, -⟩
  · omega
  · exact ⟨g, cap, rfl, ⟨hcap, .inr ⟨g, 0, rfl⟩⟩, by omega, .inr ⟨g, 0, rfl, (Array.getElem?_eq_some_iff.1 hcur).1, Lib.hid fun i hi => ⟨cells_own h hi, hok i hi⟩⟩⟩
theorem flat_ins {E : Nat → Ev} {n a : Nat} {x : Ev} (ha : a ≤ n) : flat (glue (glue (glue E 0 E) (0 + a) (fun _ => x)) (0 + a + 1) (fun i => E (a + i))) (0 + a + 1 + (n - a)) = flat (insE E a x) (n + 1) := by
  rw [show 0 + a + 1 + (n - a) = n + 1 by omega]
  refine flat_congr fun i _ => ?_
  unfold glue insE
  rcases Nat.lt_trichotomy i a with h | h | h
  · rw [if_pos (by omega), if_pos (by omega), if_neg (by omega), if_pos h]; rfl
  · rw [if_pos (by omega), if_neg (by omega), if_neg (by omega), if_pos h]
  · rw [if_neg (by omega), if_neg (by omega), if_neg (by omega)]
    show E (a + (i - (0 + a + 1))) = E (i - 1)
    rw [show a + (i - (0 + a + 1)) = i - 1 by omega]
def PutRel (w : World) (E : Nat → Ev) (x : Ev) (k : Nat) (m : Nat) (wr : World) : Prop := Hid (m = cnt E x k) ∧ Hid (fnd E x k = false) ∧ Below w.heap.size w wr ∧ nine wr w.heap.size x
theorem rput_loop (p : Option Addr) (n c : Nat) (E : Nat → Ev) (x : Ev) (w : World) (hE : Evs w p n E) (hx : ok w x) (hG : Good E n) (he : evE x = 0) (hc : n ≤ c) (hW : WL p n c) :
    Calls Try.prog 19 #[.slice p n c, .agg #[.int .i64 x.t, .int .i64 x.p, .int .i64 x.f, .int .i64 x.s, .int .i64 x.st, .int .i64 x.k, .int .i64 x.a, .int .i64 x.b, .slice x.ap x.al x.ac]] w (ListsZ w (putN E n x) (putE E n x) (insE E (cnt E x n) x)) := by
  have CK := Lib.hid (chkE_zero.2 hG)
  have HE := Lib.hid he
  have HG := Lib.hid hG
  have hn5 := hG.1
  have X0 : nine (w.alloc (.cells #[.int .i64 x.t, .int .i64 x.p, .int .i64 x.f, .int .i64 x.s, .int .i64 x.st, .int .i64 x.k, .int .i64 x.a, .int .i64 x.b, .slice x.ap x.al x.ac] 25)) w.heap.size x := nine.new
  clear he hG
  go_enter Try.func19, Try.ntmps19
  go_wp2_with fail
  refine (rcheck_any p n c E _ hE.alloc).mono ?_
  rintro e w1 ⟨rfl, hb1⟩
  rw [CK.out]
  have X1 := nine.on hb1 X0
  obtain ⟨x0, x1, x2, x3, x4, x5, x6, x7, x8, x9⟩ := X1
  have X1 : nine _ _ _ := ⟨x0, x1, x2, x3, x4, x5, x6, x7, x8, x9⟩
  go_wp2_with fail
  refine (revent_any x _ (Row.on hb1 hx.alloc)).mono ?_
  rintro e w2 ⟨rfl, hb2⟩
  rw [HE.out]
  have X2 := nine.on hb2 X1
  clear x0 x1 x2 x3 x4 x5 x6 x7 x8 x9
  have B2 : Below w.heap.size w w2 := by (repeat (first | (with_reducible exact Below.refl _ _) | (with_reducible assumption) | (with_reducible apply bl_alloc) | (with_reducible apply bl_drewN) | (with_reducible apply bl_drew) | (with_reducible refine bl_set ?_ (by first | (simp; done) | (simp; omega)) _) | (with_reducible refine bl_call ?_ (by assumption))))
  go_wp2_with fail
  go_loopw [7, 8] (fun u i wr => ∃ k m : Nat, k ≤ n ∧ i = .int .i64 k ∧ u = .int .i64 m ∧ PutRel w E x k m wr) (fun _ i _ => n - (intOf i).toNat)
  case atStart => exact ⟨0, 0, Nat.zero_le _, rfl, rfl, Lib.hid rfl, Lib.hid rfl, B2, X2⟩
  case round =>
    obtain ⟨k, m, hk, rfl, rfl, HM, HF, hb0, XR⟩ := hrel
    have c1 : (0 : Int) ≤ (k : Int) := by omega
    have n2 : (n : Int) ≤ 5000 := by omega
    rcases Nat.lt_or_ge k n with h | h
    · have c2 : (k : Int) < (n : Int) := by omega
      obtain ⟨hl, h0 | ⟨b, o, rfl, hb, hcell⟩⟩ := hE.on hb0
      · omega
      have CM := (hcell.out k h).1
      have XRd : nine wr.drew w.heap.size x := XR
      have CMd : cell9 wr.drew b (o + k * 9) (E k) := CM
      have L1 := Lib.hid fun w2 => rless_any (E k) x w2
      have L2 := Lib.hid fun w2 => rless_any x (E k) w2
      have wk : IntKind.i64.wrap ((k : Int) + 1) = ((k + 1 : Nat) : Int) := by rw [IntKind.wrap_i64]; omega
      cases h1 : ltB (E k) x
      · have L1 := Lib.hid fun w2 => (h1 ▸ rless_any (E k) x w2 : Calls Try.prog 10 #[.agg #[.int .i64 (E k).t, .int .i64 (E k).p, .int .i64 (E k).f, .int .i64 (E k).s, .int .i64 (E k).st, .int .i64 (E k).k, .int .i64 (E k).a, .int .i64 (E k).b, .slice (E k).ap (E k).al (E k).ac], .agg #[.int .i64 x.t, .int .i64 x.p, .int .i64 x.f, .int .i64 x.s, .int .i64 x.st, .int .i64 x.k, .int .i64 x.a, .int .i64 x.b, .slice x.ap x.al x.ac]] w2 (Gives (.bool false) w2))
        have HS := Lib.hid (cnt_step_f h1)
        cases h2 : ltB x (E k)
        · have L2 := Lib.hid fun w2 => (h2 ▸ rless_any x (E k) w2 : Calls Try.prog 10 #[.agg #[.int .i64 x.t, .int .i64 x.p, .int .i64 x.f, .int .i64 x.s, .int .i64 x.st, .int .i64 x.k, .int .i64 x.a, .int .i64 x.b, .slice x.ap x.al x.ac], .agg #[.int .i64 (E k).t, .int .i64 (E k).p, .int .i64 (E k).f, .int .i64 (E k).s, .int .i64 (E k).st, .int .i64 (E k).k, .int .i64 (E k).a, .int .i64 (E k).b, .slice (E k).ap (E k).al (E k).ac]] w2 (Gives (.bool false) w2))
          have HT : Hid (fnd E x n = true) := Lib.hid (fnd_iff.2 ⟨k, h, tie_of h1 h2⟩)
          clear h1 h2
          go_wp2_with fail
          go_region_held3 (fun w' => w'.cell? ⟨b, o + k * 9, none⟩ = some (.int .i64 (E k).t) ∧ w'.cell? ⟨b, o + k * 9 + 1, none⟩ = some (.int .i64 (E k).p) ∧ w'.cell? ⟨b, o + k * 9 + 2, none⟩ = some (.int .i64 (E k).f) ∧ w'.cell? ⟨b, o + k * 9 + 3, none⟩ = some (.int .i64 (E k).s) ∧ w'.cell? ⟨b, o + k * 9 + 4, none⟩ = some (.int .i64 (E k).st) ∧ w'.cell? ⟨b, o + k * 9 + 5, none⟩ = some (.int .i64 (E k).k) ∧ w'.cell? ⟨b, o + k * 9 + 6, none⟩ = some (.int .i64 (E k).a) ∧ w'.cell? ⟨b, o + k * 9 + 7, none⟩ = some (.int .i64 (E k).b) ∧ w'.cell? ⟨b, o + k * 9 + 8, none⟩ = some (.slice (E k).ap (E k).al (E k).ac) ∧ w'.cell? ⟨w.heap.size, 0, none⟩ = some (.int .i64 x.t) ∧ w'.cell? ⟨w.heap.size, 1, none⟩ = some (.int .i64 x.p) ∧ w'.cell? ⟨w.heap.size, 2, none⟩ = some (.int .i64 x.f) ∧ w'.cell? ⟨w.heap.size, 3, none⟩ = some (.int .i64 x.s) ∧ w'.cell? ⟨w.heap.size, 4, none⟩ = some (.int .i64 x.st) ∧ w'.cell? ⟨w.heap.size, 5, none⟩ = some (.int .i64 x.k) ∧ w'.cell? ⟨w.heap.size, 6, none⟩ = some (.int .i64 x.a) ∧ w'.cell? ⟨w.heap.size, 7, none⟩ = some (.int .i64 x.b) ∧ w'.cell? ⟨w.heap.size, 8, none⟩ = some (.slice x.ap x.al x.ac)) (first | (with_reducible exact keep18 C6 X6) | (with_reducible exact keep18 C5 X5) | (with_reducible exact keep18 CMd XRd) | (go_keep; done))
            (first
              | (go_at_call_of 10 (Value.agg #[.int .i64 (E k).t, .int .i64 (E k).p, .int .i64 (E k).f, .int .i64 (E k).s, .int .i64 (E k).st, .int .i64 (E k).k, .int .i64 (E k).a, .int .i64 (E k).b, .slice (E k).ap (E k).al (E k).ac]); (with_reducible refine (L1.out _).mono ?_); rintro e w5 ⟨rfl, hb5⟩; have X5 := nine.on hb5 XRd; have C5 := cell9.on hb5 hb CMd; have hb5d := Nat.lt_of_lt_of_le hb hb5.size)
              | (go_at_call 10; refine (L2.out _).mono ?_; rintro e w6 ⟨rfl, hb6⟩; have X6 := nine.on hb6 X5; have C6 := cell9.on hb6 hb5d C5))
          all_goals
            go_wp2_with fail
            go_ret2
            have hp := put_tie (HG.out) HE.out HT.out
            rw [hp.1, hp.2]
            exact ListsZ.none rfl (by (repeat (first | (with_reducible exact Below.refl _ _) | (with_reducible assumption) | (with_reducible apply bl_alloc) | (with_reducible apply bl_drewN) | (with_reducible apply bl_drew) | (with_reducible refine bl_set ?_ (by first | (simp; done) | (simp; omega)) _) | (with_reducible refine bl_call ?_ (by assumption)))))
        · have L2 := Lib.hid fun w2 => (h2 ▸ rless_any x (E k) w2 : Calls Try.prog 10 #[.agg #[.int .i64 x.t, .int .i64 x.p, .int .i64 x.f, .int .i64 x.s, .int .i64 x.st, .int .i64 x.k, .int .i64 x.a, .int .i64 x.b, .slice x.ap x.al x.ac], .agg #[.int .i64 (E k).t, .int .i64 (E k).p, .int .i64 (E k).f, .int .i64 (E k).s, .int .i64 (E k).st, .int .i64 (E k).k, .int .i64 (E k).a, .int .i64 (E k).b, .slice (E k).ap (E k).al (E k).ac]] w2 (Gives (.bool true) w2))
          have HF2 := Lib.hid (fnd_step HF.out (notie_of (.inr h2)))
          clear h1 h2
          go_wp2_with fail
          go_region_held3 (fun w' => w'.cell? ⟨b, o + k * 9, none⟩ = some (.int .i64 (E k).t) ∧ w'.cell? ⟨b, o + k * 9 + 1, none⟩ = some (.int .i64 (E k).p) ∧ w'.cell? ⟨b, o + k * 9 + 2, none⟩ = some (.int .i64 (E k).f) ∧ w'.cell? ⟨b, o + k * 9 + 3, none⟩ = some (.int .i64 (E k).s) ∧ w'.cell? ⟨b, o + k * 9 + 4, none⟩ = some (.int .i64 (E k).st) ∧ w'.cell? ⟨b, o + k * 9 + 5, none⟩ = some (.int .i64 (E k).k) ∧ w'.cell? ⟨b, o + k * 9 + 6, none⟩ = some (.int .i64 (E k).a) ∧ w'.cell? ⟨b, o + k * 9 + 7, none⟩ = some (.int .i64 (E k).b) ∧ w'.cell? ⟨b, o + k * 9 + 8, none⟩ = some (.slice (E k).ap (E k).al (E k).ac) ∧ w'.cell? ⟨w.heap.size, 0, none⟩ = some (.int .i64 x.t) ∧ w'.cell? ⟨w.heap.size, 1, none⟩ = some (.int .i64 x.p) ∧ w'.cell? ⟨w.heap.size, 2, none⟩ = some (.int .i64 x.f) ∧ w'.cell? ⟨w.heap.size, 3, none⟩ = some (.int .i64 x.s) ∧ w'.cell? ⟨w.heap.size, 4, none⟩ = some (.int .i64 x.st) ∧ w'.cell? ⟨w.heap.size, 5, none⟩ = some (.int .i64 x.k) ∧ w'.cell? ⟨w.heap.size, 6, none⟩ = some (.int .i64 x.a) ∧ w'.cell? ⟨w.heap.size, 7, none⟩ = some (.int .i64 x.b) ∧ w'.cell? ⟨w.heap.size, 8, none⟩ = some (.slice x.ap x.al x.ac)) (first | (with_reducible exact keep18 C6 X6) | (with_reducible exact keep18 C5 X5) | (with_reducible exact keep18 CMd XRd) | (go_keep; done))
            (first
              | (go_at_call_of 10 (Value.agg #[.int .i64 (E k).t, .int .i64 (E k).p, .int .i64 (E k).f, .int .i64 (E k).s, .int .i64 (E k).st, .int .i64 (E k).k, .int .i64 (E k).a, .int .i64 (E k).b, .slice (E k).ap (E k).al (E k).ac]); (with_reducible refine (L1.out _).mono ?_); rintro e w5 ⟨rfl, hb5⟩; have X5 := nine.on hb5 XRd; have C5 := cell9.on hb5 hb CMd; have hb5d := Nat.lt_of_lt_of_le hb hb5.size)
              | (go_at_call 10; refine (L2.out _).mono ?_; rintro e w6 ⟨rfl, hb6⟩; have X6 := nine.on hb6 X5; have C6 := cell9.on hb6 hb5d C5))
          all_goals
            have XR5 := X6
            obtain ⟨e0, e1, e2, e3, e4, e5, e6, e7, e8⟩ := C6
            obtain ⟨x0, x1, x2, x3, x4, x5, x6, x7, x8, x9⟩ := X6
            go_wp2_with fail
            refine region_still_tail 5 (by kernel_rfl) (by kernel_rfl) ?_
            simp only [List.take_succ_cons, List.take_zero, List.drop_succ_cons, List.drop_zero]
            iterate 5 still_step
            refine wpStill_nil ?_
            go_wp2_with fail
            refine (L1.out _).mono ?_
            rintro e w7 ⟨rfl, hb7⟩
            have XR7 := nine.on hb7 (nine.drew XR5)
            have BB : Below w.heap.size w w7 := by (repeat (first | (with_reducible exact Below.refl _ _) | (with_reducible assumption) | (with_reducible apply bl_alloc) | (with_reducible apply bl_drewN) | (with_reducible apply bl_drew) | (with_reducible refine bl_set ?_ (by first | (simp; done) | (simp; omega)) _) | (with_reducible refine bl_call ?_ (by assumption))))
            clear e0 e1 e2 e3 e4 e5 e6 e7 e8 x0 x1 x2 x3 x4 x5 x6 x7 x8 x9
            go_wp2_with fail
            go_roundw
            case rel => exact ⟨k + 1, m, by omega, rfl, rfl, Lib.hid (by rw [HM.out, HS.out]), HF2, BB, XR7⟩
            case measure => simp [intOf]; omega
      · rw [h1] at L1
        go_wp2_with fail
        have hS : (fun w' => w'.cell? ⟨b, o + k * 9, none⟩ = some (.int .i64 (E k).t) ∧ w'.cell? ⟨b, o + k * 9 + 1, none⟩ = some (.int .i64 (E k).p) ∧ w'.cell? ⟨b, o + k * 9 + 2, none⟩ = some (.int .i64 (E k).f) ∧ w'.cell? ⟨b, o + k * 9 + 3, none⟩ = some (.int .i64 (E k).s) ∧ w'.cell? ⟨b, o + k * 9 + 4, none⟩ = some (.int .i64 (E k).st) ∧ w'.cell? ⟨b, o + k * 9 + 5, none⟩ = some (.int .i64 (E k).k) ∧ w'.cell? ⟨b, o + k * 9 + 6, none⟩ = some (.int .i64 (E k).a) ∧ w'.cell? ⟨b, o + k * 9 + 7, none⟩ = some (.int .i64 (E k).b) ∧ w'.cell? ⟨b, o + k * 9 + 8, none⟩ = some (.slice (E k).ap (E k).al (E k).ac) ∧ w'.cell? ⟨w.heap.size, 0, none⟩ = some (.int .i64 x.t) ∧ w'.cell? ⟨w.heap.size, 1, none⟩ = some (.int .i64 x.p) ∧ w'.cell? ⟨w.heap.size, 2, none⟩ = some (.int .i64 x.f) ∧ w'.cell? ⟨w.heap.size, 3, none⟩ = some (.int .i64 x.s) ∧ w'.cell? ⟨w.heap.size, 4, none⟩ = some (.int .i64 x.st) ∧ w'.cell? ⟨w.heap.size, 5, none⟩ = some (.int .i64 x.k) ∧ w'.cell? ⟨w.heap.size, 6, none⟩ = some (.int .i64 x.a) ∧ w'.cell? ⟨w.heap.size, 7, none⟩ = some (.int .i64 x.b) ∧ w'.cell? ⟨w.heap.size, 8, none⟩ = some (.slice x.ap x.al x.ac)) wr.drew := keep18 CMd XRd
        refine wp_region_held_drew (S := (fun w' => w'.cell? ⟨b, o + k * 9, none⟩ = some (.int .i64 (E k).t) ∧ w'.cell? ⟨b, o + k * 9 + 1, none⟩ = some (.int .i64 (E k).p) ∧ w'.cell? ⟨b, o + k * 9 + 2, none⟩ = some (.int .i64 (E k).f) ∧ w'.cell? ⟨b, o + k * 9 + 3, none⟩ = some (.int .i64 (E k).s) ∧ w'.cell? ⟨b, o + k * 9 + 4, none⟩ = some (.int .i64 (E k).st) ∧ w'.cell? ⟨b, o + k * 9 + 5, none⟩ = some (.int .i64 (E k).k) ∧ w'.cell? ⟨b, o + k * 9 + 6, none⟩ = some (.int .i64 (E k).a) ∧ w'.cell? ⟨b, o + k * 9 + 7, none⟩ = some (.int .i64 (E k).b) ∧ w'.cell? ⟨b, o + k * 9 + 8, none⟩ = some (.slice (E k).ap (E k).al (E k).ac) ∧ w'.cell? ⟨w.heap.size, 0, none⟩ = some (.int .i64 x.t) ∧ w'.cell? ⟨w.heap.size, 1, none⟩ = some (.int .i64 x.p) ∧ w'.cell? ⟨w.heap.size, 2, none⟩ = some (.int .i64 x.f) ∧ w'.cell? ⟨w.heap.size, 3, none⟩ = some (.int .i64 x.s) ∧ w'.cell? ⟨w.heap.size, 4, none⟩ = some (.int .i64 x.st) ∧ w'.cell? ⟨w.heap.size, 5, none⟩ = some (.int .i64 x.k) ∧ w'.cell? ⟨w.heap.size, 6, none⟩ = some (.int .i64 x.a) ∧ w'.cell? ⟨w.heap.size, 7, none⟩ = some (.int .i64 x.b) ∧ w'.cell? ⟨w.heap.size, 8, none⟩ = some (.slice x.ap x.al x.ac))) (by kernel_rfl) hS (fun hS0 => ?_)
        refine wpAnyH_take (i := 0) (oi := { dst := some 25, op := Op.move (Operand.tmp 0), type := 29, pos := "ref.go:103", after := #[], guard := none }) (v := ?_) rfl (by kernel_rfl) (by kernel_rfl) (by kernel_rfl) (fun _ _ _ h => h) (Or.inl ⟨by rfl, ?_⟩) (by assumption) ?_
        rotate_left 1
        · intro w' hS'
          try dsimp only at hS'
          first | (go_simp; done) | (go_simp; with_reducible rfl)
        try simp only [Act.put, List.setIfInBounds_toArray, List.set_cons_zero, List.set_cons_succ]
        refine wpAnyH_take (i := 1) (oi := { dst := some 26, op := Op.move (Operand.tmp 8), type := 3, pos := "ref.go:103", after := #[], guard := none }) (v := ?_) rfl (by kernel_rfl) (by kernel_rfl) (by kernel_rfl) (fun _ _ _ h => h) (Or.inl ⟨by rfl, ?_⟩) (by assumption) ?_
        rotate_left 1
        · intro w' hS'
          try dsimp only at hS'
          first | (go_simp; done) | (go_simp; with_reducible rfl)
        try simp only [Act.put, List.setIfInBounds_toArray, List.set_cons_zero, List.set_cons_succ]
        refine wpAnyH_take (i := 2) (oi := { dst := some 27, op := Op.indexAddr 29 (Operand.tmp 25) (Operand.tmp 26), type := 0, pos := "ref.go:103", after := #[{ on := 0, ground := Ground.data }, { on := 1, ground := Ground.data }], guard := none }) (v := ?_) rfl (by kernel_rfl) (by kernel_rfl) (by kernel_rfl) (fun _ _ _ h => h) (Or.inl ⟨by rfl, ?_⟩) (by assumption) ?_
        rotate_left 1
        · intro w' hS'
          try dsimp only at hS'
          first | (go_simp; done) | (go_simp; with_reducible rfl)
        try simp only [Act.put, List.setIfInBounds_toArray, List.set_cons_zero, List.set_cons_succ]
        refine wpAnyH_take (i := 3) (oi := { dst := some 28, op := Op.load 25 (Operand.tmp 27), type := 25, pos := "ref.go:103", after := #[{ on := 2, ground := Ground.data }], guard := none }) (v := ?_) rfl (by kernel_rfl) (by kernel_rfl) (by kernel_rfl) (fun _ _ _ h => h) (Or.inl ⟨by rfl, ?_⟩) (by assumption) ?_
        rotate_left 1
        · intro w' hS'
          try dsimp only at hS'
          first | (go_simp; done) | (go_simp; with_reducible rfl)
        try simp only [Act.put, List.setIfInBounds_toArray, List.set_cons_zero, List.set_cons_succ]
        refine wpAnyH_take (i := 4) (oi := { dst := some 29, op := Op.load 25 (Operand.tmp 3), type := 25, pos := "ref.go:103", after := #[], guard := none }) (v := ?_) rfl (by kernel_rfl) (by kernel_rfl) (by kernel_rfl) (fun _ _ _ h => h) (Or.inl ⟨by rfl, ?_⟩) (by assumption) ?_
        rotate_left 1
        · intro w' hS'
          try dsimp only at hS'
          first | (go_simp; done) | (go_simp; with_reducible rfl)
        try simp only [Act.put, List.setIfInBounds_toArray, List.set_cons_zero, List.set_cons_succ]
        refine wpAnyH_ready (rs := [5]) (by kernel_rfl) (by simp) ?_
        refine AllReadyH.cons (o := { dst := some 30, op := Op.call { callee := Callee.value (Operand.func 10), args := #[Operand.tmp 28, Operand.tmp 29], argTypes := #[25, 25] }, type := 4, pos := "ref.go:103", after := #[{ on := 3, ground := Ground.data }, { on := 4, ground := Ground.data }], guard := none }) rfl (fun K hK => ?_) ?_
        · go_simp
          refine (L1.out _).mono ?_
          rintro e w5 ⟨rfl, hb5⟩
          have X5 := nine.on hb5 XRd
          have C5 := cell9.on hb5 hb CMd
          have hS5 : (fun w' => w'.cell? ⟨b, o + k * 9, none⟩ = some (.int .i64 (E k).t) ∧ w'.cell? ⟨b, o + k * 9 + 1, none⟩ = some (.int .i64 (E k).p) ∧ w'.cell? ⟨b, o + k * 9 + 2, none⟩ = some (.int .i64 (E k).f) ∧ w'.cell? ⟨b, o + k * 9 + 3, none⟩ = some (.int .i64 (E k).s) ∧ w'.cell? ⟨b, o + k * 9 + 4, none⟩ = some (.int .i64 (E k).st) ∧ w'.cell? ⟨b, o + k * 9 + 5, none⟩ = some (.int .i64 (E k).k) ∧ w'.cell? ⟨b, o + k * 9 + 6, none⟩ = some (.int .i64 (E k).a) ∧ w'.cell? ⟨b, o + k * 9 + 7, none⟩ = some (.int .i64 (E k).b) ∧ w'.cell? ⟨b, o + k * 9 + 8, none⟩ = some (.slice (E k).ap (E k).al (E k).ac) ∧ w'.cell? ⟨w.heap.size, 0, none⟩ = some (.int .i64 x.t) ∧ w'.cell? ⟨w.heap.size, 1, none⟩ = some (.int .i64 x.p) ∧ w'.cell? ⟨w.heap.size, 2, none⟩ = some (.int .i64 x.f) ∧ w'.cell? ⟨w.heap.size, 3, none⟩ = some (.int .i64 x.s) ∧ w'.cell? ⟨w.heap.size, 4, none⟩ = some (.int .i64 x.st) ∧ w'.cell? ⟨w.heap.size, 5, none⟩ = some (.int .i64 x.k) ∧ w'.cell? ⟨w.heap.size, 6, none⟩ = some (.int .i64 x.a) ∧ w'.cell? ⟨w.heap.size, 7, none⟩ = some (.int .i64 x.b) ∧ w'.cell? ⟨w.heap.size, 8, none⟩ = some (.slice x.ap x.al x.ac)) w5 := keep18 C5 X5
          clear hS hS0
          refine hK.out _ _ hS5 (fun hHeld => ?_)
          clear hHeld
          refine wpAnyH_take (i := 6) (oi := { dst := some 31, op := Op.unOp UnOp.not 4 (Operand.tmp 30), type := 4, pos := "ref.go:103", after := #[{ on := 5, ground := Ground.data }], guard := none }) (v := ?_) rfl (by kernel_rfl) (by kernel_rfl) (by kernel_rfl) (fun _ _ _ h => h) (Or.inl ⟨by rfl, ?_⟩) (by assumption) ?_
          rotate_left 1
          · intro w' hS'
            try dsimp only at hS'
            first | (go_simp; done) | (go_simp; with_reducible rfl)
          try simp only [Act.put, List.setIfInBounds_toArray, List.set_cons_zero, List.set_cons_succ]
          refine wpAnyH_take (i := 7) (oi := { dst := some 32, op := Op.move (Operand.tmp 31), type := 4, pos := "ref.go:103", after := #[{ on := 6, ground := Ground.data }, { on := 5, ground := Ground.chain }], guard := none }) (v := ?_) rfl (by kernel_rfl) (by kernel_rfl) (by kernel_rfl) (fun _ _ _ h => h) (Or.inl ⟨by rfl, ?_⟩) (by assumption) ?_
          rotate_left 1
          · intro w' hS'
            try dsimp only at hS'
            first | (go_simp; done) | (go_simp; with_reducible rfl)
          try simp only [Act.put, List.setIfInBounds_toArray, List.set_cons_zero, List.set_cons_succ]
          refine wpAnyH_take (i := 8) (oi := { dst := some 33, op := Op.load 25 (Operand.tmp 3), type := 25, pos := "ref.go:103", after := #[{ on := 7, ground := Ground.guard }], guard := some (7, true) }) (v := undef) rfl (by kernel_rfl) (by kernel_rfl) (by kernel_rfl) (fun _ _ _ h => h) (Or.inr ⟨by kernel_rfl, rfl⟩) (by assumption) ?_
          try simp only [Act.put, List.setIfInBounds_toArray, List.set_cons_zero, List.set_cons_succ]
          refine wpAnyH_take (i := 9) (oi := { dst := some 34, op := Op.move (Operand.tmp 0), type := 29, pos := "ref.go:103", after := #[{ on := 7, ground := Ground.guard }], guard := some (7, true) }) (v := undef) rfl (by kernel_rfl) (by kernel_rfl) (by kernel_rfl) (fun _ _ _ h => h) (Or.inr ⟨by kernel_rfl, rfl⟩) (by assumption) ?_
          try simp only [Act.put, List.setIfInBounds_toArray, List.set_cons_zero, List.set_cons_succ]
          refine wpAnyH_take (i := 10) (oi := { dst := some 35, op := Op.move (Operand.tmp 8), type := 3, pos := "ref.go:103", after := #[{ on := 7, ground := Ground.guard }], guard := some (7, true) }) (v := undef) rfl (by kernel_rfl) (by kernel_rfl) (by kernel_rfl) (fun _ _ _ h => h) (Or.inr ⟨by kernel_rfl, rfl⟩) (by assumption) ?_
          try simp only [Act.put, List.setIfInBounds_toArray, List.set_cons_zero, List.set_cons_succ]
          refine wpAnyH_take (i := 11) (oi := { dst := some 36, op := Op.indexAddr 29 (Operand.tmp 34) (Operand.tmp 35), type := 0, pos := "ref.go:103", after := #[{ on := 9, ground := Ground.data }, { on := 10, ground := Ground.data }, { on := 7, ground := Ground.guard }], guard := some (7, true) }) (v := undef) rfl (by kernel_rfl) (by kernel_rfl) (by kernel_rfl) (fun _ _ _ h => h) (Or.inr ⟨by kernel_rfl, rfl⟩) (by assumption) ?_
          try simp only [Act.put, List.setIfInBounds_toArray, List.set_cons_zero, List.set_cons_succ]
          refine wpAnyH_take (i := 12) (oi := { dst := some 37, op := Op.load 25 (Operand.tmp 36), type := 25, pos := "ref.go:103", after := #[{ on := 11, ground := Ground.data }, { on := 7, ground := Ground.guard }], guard := some (7, true) }) (v := undef) rfl (by kernel_rfl) (by kernel_rfl) (by kernel_rfl) (fun _ _ _ h => h) (Or.inr ⟨by kernel_rfl, rfl⟩) (by assumption) ?_
          try simp only [Act.put, List.setIfInBounds_toArray, List.set_cons_zero, List.set_cons_succ]
          refine wpAnyH_take (i := 13) (oi := { dst := some 38, op := Op.call { callee := Callee.value (Operand.func 10), args := #[Operand.tmp 33, Operand.tmp 37], argTypes := #[25, 25] }, type := 4, pos := "ref.go:103", after := #[{ on := 8, ground := Ground.data }, { on := 12, ground := Ground.data }, { on := 7, ground := Ground.chain }, { on := 7, ground := Ground.guard }], guard := some (7, true) }) (v := undef) rfl (by kernel_rfl) (by kernel_rfl) (by kernel_rfl) (fun _ _ _ h => h) (Or.inr ⟨by kernel_rfl, rfl⟩) (by assumption) ?_
          try simp only [Act.put, List.setIfInBounds_toArray, List.set_cons_zero, List.set_cons_succ]
          refine wpAnyH_take (i := 14) (oi := { dst := some 39, op := Op.unOp UnOp.not 4 (Operand.tmp 38), type := 4, pos := "ref.go:103", after := #[{ on := 13, ground := Ground.data }, { on := 7, ground := Ground.guard }], guard := some (7, true) }) (v := undef) rfl (by kernel_rfl) (by kernel_rfl) (by kernel_rfl) (fun _ _ _ h => h) (Or.inr ⟨by kernel_rfl, rfl⟩) (by assumption) ?_
          try simp only [Act.put, List.setIfInBounds_toArray, List.set_cons_zero, List.set_cons_succ]
          refine wpAnyH_take (i := 15) (oi := { dst := some 40, op := Op.pick (Operand.tmp 32) (Operand.tmp 39) (Operand.const (Value.bool false)), type := 4, pos := "ref.go:103", after := #[{ on := 7, ground := Ground.data }, { on := 14, ground := Ground.data }], guard := none }) (v := ?_) rfl (by kernel_rfl) (by kernel_rfl) (by kernel_rfl) (fun _ _ _ h => h) (Or.inl ⟨by rfl, ?_⟩) (by assumption) ?_
          rotate_left 1
          · intro w' hS'
            try dsimp only at hS'
            first | (go_simp; done) | (go_simp; with_reducible rfl)
          try simp only [Act.put, List.setIfInBounds_toArray, List.set_cons_zero, List.set_cons_succ]
          refine wpAnyH_done (by kernel_rfl) ?_ _
          clear hK
          have HS := Lib.hid (cnt_step_t h1)
          have HF2 := Lib.hid (fnd_step HF.out (notie_of (.inl h1)))
          have CM5 := C5
          have XR5 := X5
          clear hS5
          obtain ⟨e0, e1, e2, e3, e4, e5, e6, e7, e8⟩ := C5
          obtain ⟨x0, x1, x2, x3, x4, x5, x6, x7, x8, x9⟩ := X5
          have X5 : nine _ _ _ := ⟨x0, x1, x2, x3, x4, x5, x6, x7, x8, x9⟩
          go_wp2_with fail
          have L1 := Lib.hid fun w2 => (h1 ▸ rless_any (E k) x w2 : Calls Try.prog 10 #[.agg #[.int .i64 (E k).t, .int .i64 (E k).p, .int .i64 (E k).f, .int .i64 (E k).s, .int .i64 (E k).st, .int .i64 (E k).k, .int .i64 (E k).a, .int .i64 (E k).b, .slice (E k).ap (E k).al (E k).ac], .agg #[.int .i64 x.t, .int .i64 x.p, .int .i64 x.f, .int .i64 x.s, .int .i64 x.st, .int .i64 x.k, .int .i64 x.a, .int .i64 x.b, .slice x.ap x.al x.ac]] w2 (Gives (.bool true) w2))
          refine region_still_tail 5 (by kernel_rfl) (by kernel_rfl) ?_
          simp only [List.take_succ_cons, List.take_zero, List.drop_succ_cons, List.drop_zero]
          iterate 5 still_step
          refine wpStill_nil ?_
          go_wp2_with fail
          refine (L1.out _).mono ?_
          rintro e w6 ⟨rfl, hb6⟩
          have XR6 := nine.on hb6 (nine.drew XR5)
          have BB : Below w.heap.size w w6 := by (repeat (first | (with_reducible exact Below.refl _ _) | (with_reducible assumption) | (with_reducible apply bl_alloc) | (with_reducible apply bl_drewN) | (with_reducible apply bl_drew) | (with_reducible refine bl_set ?_ (by first | (simp; done) | (simp; omega)) _) | (with_reducible refine bl_call ?_ (by assumption))))
          clear e0 e1 e2 e3 e4 e5 e6 e7 e8 x0 x1 x2 x3 x4 x5 x6 x7 x8 x9
          go_wp2_with fail
          go_roundw
          case rel => exact ⟨k + 1, k + 1, by omega, rfl, rfl, Lib.hid HS.out.symm, HF2, BB, XR6⟩
          case measure => simp [intOf]; omega
        · exact AllReadyH.nil
    · obtain rfl : n = k := by omega
      have hm := HM.out
      subst hm
      have hle := cnt_le (E := E) (x := x) (n := n)
      by_cases h5 : n = 5000
      · have g5 : ((n : Int) == 5000) = true := by rw [beq_iff_eq]; omega
        have HP := Lib.hid (put_full HG.out HE.out HF.out h5)
        clear h5
        go_wp2_with fail
        go_ret2
        rw [HP.out.1, HP.out.2]
        exact ListsZ.none rfl (by (repeat (first | (with_reducible exact Below.refl _ _) | (with_reducible assumption) | (with_reducible apply bl_alloc) | (with_reducible apply bl_drewN) | (with_reducible apply bl_drew) | (with_reducible refine bl_set ?_ (by first | (simp; done) | (simp; omega)) _) | (with_reducible refine bl_call ?_ (by assumption)))))
      · have g5 : ((n : Int) == 5000) = false := by rw [beq_eq_false_iff_ne]; omega
        have HP := Lib.hid (put_ok HG.out HE.out HF.out h5)
        generalize hA : cnt E x n = a at hle ⊢
        have HA := Lib.hid hA
        clear hA HM
        have a0 : (0 : Int) ≤ (a : Int) := by omega
        have a1 : (a : Int) ≤ (c : Int) := by omega
        have a2 : (a : Int) ≤ (n : Int) := by omega
        have a3 : (n : Int) ≤ (c : Int) := by omega
        have hEr := hE.on hb0
        have hxr : ok wr x := Row.on hb0 hx
        have hlo := hb0.size
        have O0 : (wr.alloc (.cells #[] 25)).ownsRow wr.heap.size 25 9 (.slice (some ⟨wr.heap.size, 0, none⟩) 0 0) 0 (flat E 0) := World.ownsRow_lit (w := wr) (base := wr.heap.size) (e := 25) (size := 9) #[] 0 (Nat.le_refl _) (by unfold maxLen; omega) rfl
        obtain ⟨v1, w3, run1, O1, B3⟩ := append_evs O0 (c := c) ((hEr.take hle).alloc (o := .cells #[] 25)) (by omega) (by simp)
        have B3 := B3 wr rfl (by (repeat (first | (with_reducible exact Below.refl _ _) | (with_reducible assumption) | (with_reducible apply bl_alloc) | (with_reducible apply bl_drewN) | (with_reducible apply bl_drew) | (with_reducible refine bl_set ?_ (by first | (simp; done) | (simp; omega)) _) | (with_reducible refine bl_call ?_ (by assumption)))))
        have hx3 : ok w3 x := Row.on B3 hxr
        obtain ⟨v2, w4, run2, O2, B4⟩ := append_evs (own_below O1 (bl_alloc (Below.refl _ _))) (c := 1) (one_ev hx3) (by omega) (by have := B3.size; simp; omega)
        have B4 := B4 wr rfl (by (repeat (first | (with_reducible exact Below.refl _ _) | (with_reducible assumption) | (with_reducible apply bl_alloc) | (with_reducible apply bl_drewN) | (with_reducible apply bl_drew) | (with_reducible refine bl_set ?_ (by first | (simp; done) | (simp; omega)) _) | (with_reducible refine bl_call ?_ (by assumption)))))
        have X3 := nine.on B3 XR
        have hE4 := hEr.on B4
        rcases hW.2 with hc0 | ⟨b, o, rfl⟩
        · obtain rfl : n = 0 := by omega
          obtain rfl : a = 0 := by omega
          subst hc0
          rcases p with - | A
          · have EP : Evs w4 none (0 - 0) (fun i => E (0 + i)) := Evs.nil
            obtain ⟨v3, w5, run3, O3, B5⟩ := append_evs O2 (p := none) (m := 0 - 0) (c := 0) (F := fun i => E (0 + i)) EP (by omega) (by have := B4.size; omega)
            have B5 := B5 wr rfl B4
            have B5w : Below w.heap.size w w5 := by (repeat (first | (with_reducible exact Below.refl _ _) | (with_reducible assumption) | (with_reducible apply bl_alloc) | (with_reducible apply bl_drewN) | (with_reducible apply bl_drew) | (with_reducible refine bl_set ?_ (by first | (simp; done) | (simp; omega)) _) | (with_reducible refine bl_call ?_ (by assumption))))
            have hBw := bl_call hb0 B5
            rw [flat_ins hle, show 0 + 0 + 1 + (0 - 0) = 0 + 1 by omega] at O3
            obtain ⟨g, d, rfl, hWL, hEv⟩ := own_evs O3 (by omega) (by omega) (insE_all (P := fun y => ok w5 y) hle (fun i hi => Row.on hBw (hE.get i hi)) (Row.on hBw hx))
            have HEv : Hid (ListsZ w (0 + 1) 0 (insE E 0 x) (.returned (.tuple #[.slice (some ⟨g, 0, none⟩) (0 + 1) d, .int .i64 0])) w5) := Lib.hid ⟨_, d, _, rfl, hWL, hEv, fun i _ => Eqv.refl _, hBw⟩
            clear hEv O0 O1 O2 O3 hWL
            go_upto_region 17 with (at_builtin; refine Lib.wpList_append_run _ rfl _ _ _ _ rfl _ _ rfl rfl _ _ run1 ?_)
            obtain ⟨x0, x1, x2, x3, x4, x5, x6, x7, x8, x9⟩ := X3
            go_upto_region 18 with (at_builtin; refine Lib.wpList_append_run _ rfl _ _ _ _ rfl _ _ rfl rfl _ _ run2 ?_)
            go_wp2_with (at_builtin; refine Lib.wpList_append_run _ rfl _ _ _ _ rfl _ _ rfl rfl _ _ run3 ?_)
            go_ret2
            rw [HP.out.1, HP.out.2]
            try rw [HA.out]
            exact HEv.out

          · have EP : Evs w4 (some A) (0 - 0) (fun i => E (0 + i)) := Evs.nil
            obtain ⟨v3, w5, run3, O3, B5⟩ := append_evs O2 (p := some A) (m := 0 - 0) (c := 0) (F := fun i => E (0 + i)) EP (by omega) (by have := B4.size; omega)
            have B5 := B5 wr rfl B4
            have B5w : Below w.heap.size w w5 := by (repeat (first | (with_reducible exact Below.refl _ _) | (with_reducible assumption) | (with_reducible apply bl_alloc) | (with_reducible apply bl_drewN) | (with_reducible apply bl_drew) | (with_reducible refine bl_set ?_ (by first | (simp; done) | (simp; omega)) _) | (with_reducible refine bl_call ?_ (by assumption))))
            have hBw := bl_call hb0 B5
            rw [flat_ins hle, show 0 + 0 + 1 + (0 - 0) = 0 + 1 by omega] at O3
            obtain ⟨g, d, rfl, hWL, hEv⟩ := own_evs O3 (by omega) (by omega) (insE_all (P := fun y => ok w5 y) hle (fun i hi => Row.on hBw (hE.get i hi)) (Row.on hBw hx))
            have HEv : Hid (ListsZ w (0 + 1) 0 (insE E 0 x) (.returned (.tuple #[.slice (some ⟨g, 0, none⟩) (0 + 1) d, .int .i64 0])) w5) := Lib.hid ⟨_, d, _, rfl, hWL, hEv, fun i _ => Eqv.refl _, hBw⟩
            clear hEv O0 O1 O2 O3 hWL
            go_upto_region 17 with (at_builtin; refine Lib.wpList_append_run _ rfl _ _ _ _ rfl _ _ rfl rfl _ _ run1 ?_)
            obtain ⟨x0, x1, x2, x3, x4, x5, x6, x7, x8, x9⟩ := X3
            go_upto_region 18 with (at_builtin; refine Lib.wpList_append_run _ rfl _ _ _ _ rfl _ _ rfl rfl _ _ run2 ?_)
            go_wp2_with (at_builtin; refine Lib.wpList_append_run _ rfl _ _ _ _ rfl _ _ rfl rfl _ _ run3 ?_)
            go_ret2
            rw [HP.out.1, HP.out.2]
            try rw [HA.out]
            exact HEv.out

        · by_cases hca : c = a
          · have EP : Evs w4 (some ⟨b, o, none⟩) (n - a) (fun i => E (a + i)) := by rw [show n - a = 0 by omega]; exact Evs.nil
            obtain ⟨v3, w5, run3, O3, B5⟩ := append_evs O2 (p := some ⟨b, o, none⟩) (m := n - a) (c := c - a) (F := fun i => E (a + i)) EP (by omega) (by have := B4.size; omega)
            have B5 := B5 wr rfl B4
            have B5w : Below w.heap.size w w5 := by (repeat (first | (with_reducible exact Below.refl _ _) | (with_reducible assumption) | (with_reducible apply bl_alloc) | (with_reducible apply bl_drewN) | (with_reducible apply bl_drew) | (with_reducible refine bl_set ?_ (by first | (simp; done) | (simp; omega)) _) | (with_reducible refine bl_call ?_ (by assumption))))
            have hBw := bl_call hb0 B5
            rw [flat_ins hle, show 0 + a + 1 + (n - a) = n + 1 by omega] at O3
            obtain ⟨g, d, rfl, hWL, hEv⟩ := own_evs O3 (by omega) (by omega) (insE_all (P := fun y => ok w5 y) hle (fun i hi => Row.on hBw (hE.get i hi)) (Row.on hBw hx))
            have HEv : Hid (ListsZ w (n + 1) 0 (insE E a x) (.returned (.tuple #[.slice (some ⟨g, 0, none⟩) (n + 1) d, .int .i64 0])) w5) := Lib.hid ⟨_, d, _, rfl, hWL, hEv, fun i _ => Eqv.refl _, hBw⟩
            clear hEv O0 O1 O2 O3 hWL
            subst hca
            rw [show n - c = 0 by omega, Nat.sub_self] at run3
            go_upto_region 17 with (at_builtin; refine Lib.wpList_append_run _ rfl _ _ _ _ rfl _ _ rfl rfl _ _ run1 ?_)
            obtain ⟨x0, x1, x2, x3, x4, x5, x6, x7, x8, x9⟩ := X3
            go_upto_region 18 with (at_builtin; refine Lib.wpList_append_run _ rfl _ _ _ _ rfl _ _ rfl rfl _ _ run2 ?_)
            go_wp2_with (at_builtin; refine Lib.wpList_append_run _ rfl _ _ _ _ rfl _ _ rfl rfl _ _ run3 ?_)
            go_ret2
            rw [HP.out.1, HP.out.2]
            try rw [HA.out]
            exact HEv.out

          · have EP : Evs w4 (some ⟨b, o + a * 9, none⟩) (n - a) (fun i => E (a + i)) := hE4.drop hle
            obtain ⟨v3, w5, run3, O3, B5⟩ := append_evs O2 (p := some ⟨b, o + a * 9, none⟩) (m := n - a) (c := c - a) (F := fun i => E (a + i)) EP (by omega) (by have := B4.size; omega)
            have B5 := B5 wr rfl B4
            have B5w : Below w.heap.size w w5 := by (repeat (first | (with_reducible exact Below.refl _ _) | (with_reducible assumption) | (with_reducible apply bl_alloc) | (with_reducible apply bl_drewN) | (with_reducible apply bl_drew) | (with_reducible refine bl_set ?_ (by first | (simp; done) | (simp; omega)) _) | (with_reducible refine bl_call ?_ (by assumption))))
            have hBw := bl_call hb0 B5
            rw [flat_ins hle, show 0 + a + 1 + (n - a) = n + 1 by omega] at O3
            obtain ⟨g, d, rfl, hWL, hEv⟩ := own_evs O3 (by omega) (by omega) (insE_all (P := fun y => ok w5 y) hle (fun i hi => Row.on hBw (hE.get i hi)) (Row.on hBw hx))
            have HEv : Hid (ListsZ w (n + 1) 0 (insE E a x) (.returned (.tuple #[.slice (some ⟨g, 0, none⟩) (n + 1) d, .int .i64 0])) w5) := Lib.hid ⟨_, d, _, rfl, hWL, hEv, fun i _ => Eqv.refl _, hBw⟩
            clear hEv O0 O1 O2 O3 hWL
            go_upto_region 17 with (at_builtin; refine Lib.wpList_append_run _ rfl _ _ _ _ rfl _ _ rfl rfl _ _ run1 ?_)
            obtain ⟨x0, x1, x2, x3, x4, x5, x6, x7, x8, x9⟩ := X3
            go_upto_region 18 with (at_builtin; refine Lib.wpList_append_run _ rfl _ _ _ _ rfl _ _ rfl rfl _ _ run2 ?_)
            go_wp2_with (at_builtin; refine Lib.wpList_append_run _ rfl _ _ _ _ rfl _ _ rfl rfl _ _ run3 ?_)
            go_ret2
            rw [HP.out.1, HP.out.2]
            try rw [HA.out]
            exact HEv.out

theorem rput_any (p : Option Addr) (n c : Nat) (E : Nat → Ev) (x : Ev) (w : World) (hE : Evs w p n E) (hW : WL p n c) (hx : ok w x) : Calls Try.prog 19 #[.slice p n c, .agg #[.int .i64 x.t, .int .i64 x.p, .int .i64 x.f, .int .i64 x.s, .int .i64 x.st, .int .i64 x.k, .int .i64 x.a, .int .i64 x.b, .slice x.ap x.al x.ac]] w (ListsZ w (putN E n x) (putE E n x) (insE E (cnt E x n) x)) := by
  have n0 : ∀ {z : Int} {e : Ending} {w' : World}, ListsZ w 0 z E e w' → ListsZ w 0 z (insE E (cnt E x n) x) e w' := fun {z e w'} ⟨p, c, F, h1, h2, h3, _, h5⟩ => ⟨p, c, F, h1, h2, h3, fun i hi => absurd hi (Nat.not_lt_zero _), h5⟩
  by_cases h1 : chkE E n = 0
  · by_cases h2 : evE x = 0
    · exact rput_loop p n c E x w hE hx (chkE_zero.1 h1) h2 hW.1 hW
    · have hp : putE E n x = evE x := by unfold putE; rw [if_pos h1, if_neg h2]
      unfold putN
      rw [hp, if_neg h2]
      exact (rput_e2 p n c E x w hE hx h1 h2).mono fun _ _ h => n0 h
  · have hp : putE E n x = chkE E n := by unfold putE; rw [if_neg h1]
    unfold putN
    rw [hp, if_neg h1]
    exact (rput_e1 p n c E x w hE h1).mono fun _ _ h => n0 h
end Go.Proofs.Ytmijjpecgcgkgaa.Ag
