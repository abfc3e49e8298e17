/-
  The law of numbers, walked.
-/
import Derived.Test.YtilnojcbebchdaaDoorLxAwake
import Derived.Test.YtilnojcbebchdaaDoorLxRTok2
import Derived.Test.YtilnojcbebchdaaDoorLxNum
import Derived.Test.YtilnojcbebchdaaDoorRef
namespace Go.Proofs.YtilnojcbebchdaaDoor.Lx
open Go.RowKit
set_option maxHeartbeats 4000000
set_option linter.unusedVariables false
set_option linter.unusedSimpArgs false
theorem dig_noltr {c : UInt8} (h : digC c = true) : ltrC c = false := by
  have := dig_nat h
  unfold ltrC ltrI
  rw [decide_eq_false (by omega), Bool.false_and]
/-- The tokens of a number's text. -/
theorem tok_num {v : Int} (h0 : 0 ≤ v) (h1 : v ≤ 1000000000000) : tokL (Lib.itoa v) = [⟨2, mt, v, 1⟩, ⟨4, mt, 0, 1⟩, ⟨0, mt, 0, 1⟩] ∧ tokN (Lib.itoa v) = 0 ∧ tokE (Lib.itoa v) = 0 := by
  have hO := numO_some.2 ⟨h0, h1, rfl⟩
  have hA := itoa_dig h0
  have hl : (Lib.itoa v).length ≤ 13 := by
    have h2 := numO_some.2 ⟨h0, h1, rfl⟩
    unfold numO at h2
    split at h2
    · cases h2
    · omega
  obtain ⟨l, hlq⟩ : ∃ l, Lib.itoa v = l := ⟨_, rfl⟩
  have hne := itoa_ne h0
  rw [hlq] at hO hA hl hne ⊢
  clear hlq
  cases l with
  | nil => exact absurd rfl hne
  | cons c t =>
    have hc : digC c = true := by rw [List.all_cons, Bool.and_eq_true] at hA; exact hA.1
    have hn := dig_nat hc
    have hS : spn digC (c :: t) = (c :: t).length := spn_all fun j hj => List.all_eq_true.1 hA _ (List.getElem_mem hj)
    have hF : fstO (c :: t) = some (⟨2, mt, v, 0⟩, (c :: t).length) := by
      refine fst_num ?_ hS (by simp) (by rw [List.take_length]; exact hO)
      unfold wdN
      rw [if_pos (spn_no (dig_noltr hc))]
    have hT : tokC c := ⟨fun g => by rcases g with rfl | rfl <;> simp at hn, fun g => by subst g; simp at hn, fun g => by subst g; simp at hn⟩
    have e : lexL (c :: t) [] 1 = ⟨[⟨2, mt, v, 1⟩], 1, false⟩ := by
      rw [lex_tok hT hF, List.drop_length, lexL_nil]
      rfl
    obtain ⟨e1, e2, e3⟩ := tok_good (l := c :: t) (by omega) (by rw [e])
    rw [e1, e2, e3, e]
    exact ⟨by kernel_rfl, rfl, rfl⟩
theorem number_at {s : ByteArray} {o : Option Int} (h : numO (bs s) = o) (hs : s.size ≤ 140737488355328) (w : World) (hE : Env w) : Calls Tryd.prog 20 #[.string s] w (Gives (numV o) w) := by
  cases o with
  | none => exact number_no h hs w hE
  | some v => exact number_yes h w hE
theorem text01 (n : Int) (h0 : -9223372036854775808 ≤ n) (h1 : n ≤ 9223372036854775807) (w : World) : Calls Tryd.prog 22 #[.int .i64 n] w fun e w' => e = .returned (.string (num n)) ∧ w' = w :=
  (rtext_any n h0 h1 w).mono fun e w' ⟨h1, h2⟩ => ⟨h1, h2.symm⟩
set_option maxRecDepth 100000 in
theorem numbers_in (s : ByteArray) (n : Int) (o : Option Int) (w : World) (hs : s.size ≤ 140737488355328) (h0 : -9223372036854775808 ≤ n) (h1 : n ≤ 9223372036854775807) (hE : Env w) (ho : numO (bs s) = o) (g0 : 0 ≤ n) (g1 : n ≤ 1000000000000) : Calls Tryd.prog 7 #[.string s, .int .i64 n] w (Gives (.bool true) w) := by
  have HE := Lib.hid hE
  have hz : (num n).size ≤ 20 := num_size20 n h0 h1
  have IN := fun (w1 : World) (hb : Below w.heap.size w w1) => number_at (s := num n) (numO_some.2 ⟨g0, g1, rfl⟩) (by omega) w1 (HE.out.below hb)
  have IT := fun (w1 : World) (hb : Below w.heap.size w w1) => tokens_at (s := num n) (tok_num g0 g1) (by omega) w1 (HE.out.below hb)
  have I1 := number_at ho hs w hE
  have I2 := fun w1 => rnumber_at (s := s) ho (by omega) w1
  have q0 : decide ((0 : Int) ≤ n) = true := decide_eq_true g0
  have q1 : decide (n ≤ (1000000000000 : Int)) = true := decide_eq_true g1
  unfold numV at I1 I2 IN
  clear hE hz
  cases o with
  | none =>
    clear ho
    simp only at I1 I2 IN
    go_enter Tryd.func7, Tryd.ntmps7
    go_wp2_with fail
    refine I1.mono ?_
    rintro e w1 ⟨rfl, hb1⟩
    have HB1 : Hid (Below w.heap.size w w1) := Lib.hid hb1
    clear hb1 I1
    go_wp2_with fail
    refine (I2 w1).mono ?_
    rintro e w2 ⟨rfl, rfl⟩
    clear I2
    go_wp2_with fail
    refine (text01 n h0 h1 _).mono ?_
    rintro e w9 ⟨rfl, rfl⟩
    go_wp2_with fail
    refine (IN _ HB1.out).mono ?_
    rintro e w4 ⟨rfl, hb4⟩
    have HB4 : Hid (Below w.heap.size w w4) := Lib.hid (by have HBB := HB1.out; (repeat (first | (with_reducible exact Below.refl _ _) | (with_reducible assumption) | (with_reducible apply bl_alloc) | (with_reducible apply bl_drewN) | (with_reducible apply bl_drew) | (with_reducible refine bl_set ?_ (by first | (simp; done) | (simp; omega)) _) | (with_reducible refine bl_call ?_ (by assumption)))))
    clear hb4
    go_wp2_with fail
    refine (text01 n h0 h1 w4).mono ?_
    rintro e w9 ⟨rfl, rfl⟩
    go_wp2_with fail
    refine (IT _ HB4.out).mono ?_
    rintro e w5 ⟨v5, rfl, ho5, hb5⟩
    have HB5 : Hid (Below w.heap.size w w5) := Lib.hid (by have HBB := HB4.out; (repeat (first | (with_reducible exact Below.refl _ _) | (with_reducible assumption) | (with_reducible apply bl_alloc) | (with_reducible apply bl_drewN) | (with_reducible apply bl_drew) | (with_reducible refine bl_set ?_ (by first | (simp; done) | (simp; omega)) _) | (with_reducible refine bl_call ?_ (by assumption)))))
    clear hb5
    obtain ⟨p, c, rfl, hT, -, -⟩ := own_toks ho5
    clear ho5 IN IT
    rw [show [(⟨2, mt, n, 1⟩ : Tk), ⟨4, mt, 0, 1⟩, ⟨0, mt, 0, 1⟩].length = 3 from rfl] at hT ⊢
    obtain ⟨b, o, rfl, hb, hc⟩ := toks_at hT (k := 0) (by decide)
    obtain ⟨r1, r2, r3, r4⟩ := hc 0 (by simp)
    have a1 : w5.cell? ⟨b, o, none⟩ = some (.int .i64 2) := r1
    have a3 : w5.cell? ⟨b, o + 2, none⟩ = some (.int .i64 n) := r3
    clear hc r1 r2 r3 r4 hT
    go_wp2_with fail
    refine (awake_any w5 (HE.out.below HB5.out)).mono ?_
    rintro e w9 ⟨rfl, hb9⟩
    go_wp2_with fail
    go_ret
    exact ⟨rfl, by have HBB := HB5.out; (repeat (first | (with_reducible exact Below.refl _ _) | (with_reducible assumption) | (with_reducible apply bl_alloc) | (with_reducible apply bl_drewN) | (with_reducible apply bl_drew) | (with_reducible refine bl_set ?_ (by first | (simp; done) | (simp; omega)) _) | (with_reducible refine bl_call ?_ (by assumption))))⟩
  | some v =>
    have HV := numO_some.1 ho
    have eS : num v = s := num_eq.2 HV.2.2
    have t1 : ((num v).toList == s.toList) = true := by rw [eS]; simp
    have hv0 := HV.1
    have hv1 := HV.2.1
    have IV := fun w1 => text01 v (by omega) (by omega) w1
    clear ho HV
    simp only at I1 I2 IN
    go_enter Tryd.func7, Tryd.ntmps7
    go_wp2_with fail
    refine I1.mono ?_
    rintro e w1 ⟨rfl, hb1⟩
    have HB1 : Hid (Below w.heap.size w w1) := Lib.hid hb1
    clear hb1 I1
    go_wp2_with fail
    refine (I2 w1).mono ?_
    rintro e w2 ⟨rfl, rfl⟩
    clear I2
    go_wp2_with fail
    refine (IV _).mono ?_
    rintro e w3 ⟨rfl, rfl⟩
    clear IV
    go_wp2_with fail
    refine (text01 n h0 h1 _).mono ?_
    rintro e w9 ⟨rfl, rfl⟩
    go_wp2_with fail
    refine (IN _ HB1.out).mono ?_
    rintro e w4 ⟨rfl, hb4⟩
    have HB4 : Hid (Below w.heap.size w w4) := Lib.hid (by have HBB := HB1.out; (repeat (first | (with_reducible exact Below.refl _ _) | (with_reducible assumption) | (with_reducible apply bl_alloc) | (with_reducible apply bl_drewN) | (with_reducible apply bl_drew) | (with_reducible refine bl_set ?_ (by first | (simp; done) | (simp; omega)) _) | (with_reducible refine bl_call ?_ (by assumption)))))
    clear hb4
    go_wp2_with fail
    refine (text01 n h0 h1 w4).mono ?_
    rintro e w9 ⟨rfl, rfl⟩
    go_wp2_with fail
    refine (IT _ HB4.out).mono ?_
    rintro e w5 ⟨v5, rfl, ho5, hb5⟩
    have HB5 : Hid (Below w.heap.size w w5) := Lib.hid (by have HBB := HB4.out; (repeat (first | (with_reducible exact Below.refl _ _) | (with_reducible assumption) | (with_reducible apply bl_alloc) | (with_reducible apply bl_drewN) | (with_reducible apply bl_drew) | (with_reducible refine bl_set ?_ (by first | (simp; done) | (simp; omega)) _) | (with_reducible refine bl_call ?_ (by assumption)))))
    clear hb5
    obtain ⟨p, c, rfl, hT, -, -⟩ := own_toks ho5
    clear ho5 IN IT
    rw [show [(⟨2, mt, n, 1⟩ : Tk), ⟨4, mt, 0, 1⟩, ⟨0, mt, 0, 1⟩].length = 3 from rfl] at hT ⊢
    obtain ⟨b, o, rfl, hb, hc⟩ := toks_at hT (k := 0) (by decide)
    obtain ⟨r1, r2, r3, r4⟩ := hc 0 (by simp)
    have a1 : w5.cell? ⟨b, o, none⟩ = some (.int .i64 2) := r1
    have a3 : w5.cell? ⟨b, o + 2, none⟩ = some (.int .i64 n) := r3
    clear hc r1 r2 r3 r4 hT
    go_wp2_with fail
    refine (awake_any w5 (HE.out.below HB5.out)).mono ?_
    rintro e w9 ⟨rfl, hb9⟩
    go_wp2_with fail
    go_ret
    exact ⟨rfl, by have HBB := HB5.out; (repeat (first | (with_reducible exact Below.refl _ _) | (with_reducible assumption) | (with_reducible apply bl_alloc) | (with_reducible apply bl_drewN) | (with_reducible apply bl_drew) | (with_reducible refine bl_set ?_ (by first | (simp; done) | (simp; omega)) _) | (with_reducible refine bl_call ?_ (by assumption))))⟩
set_option maxRecDepth 100000 in
theorem numbers_out (s : ByteArray) (n : Int) (o : Option Int) (w : World) (hs : s.size ≤ 140737488355328) (h0 : -9223372036854775808 ≤ n) (h1 : n ≤ 9223372036854775807) (hE : Env w) (ho : numO (bs s) = o) (b0 b1 : Bool) (q0 : decide ((0 : Int) ≤ n) = b0) (q1 : decide (n ≤ (1000000000000 : Int)) = b1) (gb : (b0 = false) ∨ (b0 = true ∧ b1 = false)) : Calls Tryd.prog 7 #[.string s, .int .i64 n] w (Gives (.bool true) w) := by
  have HE := Lib.hid hE
  have hno : numO (bs (num n)) = none := by
    show numO (Lib.itoa n) = none
    rw [numO_itoa h0 h1, if_neg]
    rintro ⟨g0, g1⟩
    rw [decide_eq_true g0] at q0
    rw [decide_eq_true g1] at q1
    subst q0 q1
    simp at gb
  obtain ⟨l, hl⟩ : ∃ l, tokL (bs (num n)) = l := ⟨_, rfl⟩
  obtain ⟨m, hm⟩ : ∃ m, tokN (bs (num n)) = m := ⟨_, rfl⟩
  obtain ⟨x, hx⟩ : ∃ x, tokE (bs (num n)) = x := ⟨_, rfl⟩
  have hz : (num n).size ≤ 20 := num_size20 n h0 h1
  have IN := fun (w1 : World) (hb : Below w.heap.size w w1) => number_at (s := num n) (o := none) hno (by omega) w1 (HE.out.below hb)
  have IT := fun (w1 : World) (hb : Below w.heap.size w w1) => tokens_at (s := num n) ⟨hl, hm, hx⟩ (by omega) w1 (HE.out.below hb)
  have I1 := number_at ho hs w hE
  have I2 := fun w1 => rnumber_at (s := s) ho (by omega) w1
  unfold numV at I1 I2 IN
  clear hE hz hno hl hm hx
  cases o with
  | none =>
    clear ho
    simp only at I1 I2 IN
    rcases gb with rfl | ⟨rfl, rfl⟩
    all_goals
      go_enter Tryd.func7, Tryd.ntmps7
      go_wp2_with fail
      refine I1.mono ?_
      rintro e w1 ⟨rfl, hb1⟩
      have HB1 : Hid (Below w.heap.size w w1) := Lib.hid hb1
      clear hb1 I1
      go_wp2_with fail
      refine (I2 w1).mono ?_
      rintro e w2 ⟨rfl, rfl⟩
      clear I2
      go_wp2_with fail
      refine (text01 n h0 h1 _).mono ?_
      rintro e w9 ⟨rfl, rfl⟩
      go_wp2_with fail
      refine (IN _ HB1.out).mono ?_
      rintro e w4 ⟨rfl, hb4⟩
      have HB4 : Hid (Below w.heap.size w w4) := Lib.hid (by have HBB := HB1.out; (repeat (first | (with_reducible exact Below.refl _ _) | (with_reducible assumption) | (with_reducible apply bl_alloc) | (with_reducible apply bl_drewN) | (with_reducible apply bl_drew) | (with_reducible refine bl_set ?_ (by first | (simp; done) | (simp; omega)) _) | (with_reducible refine bl_call ?_ (by assumption)))))
      clear hb4
      go_wp2_with fail
      refine (text01 n h0 h1 w4).mono ?_
      rintro e w9 ⟨rfl, rfl⟩
      go_wp2_with fail
      refine (IT _ HB4.out).mono ?_
      rintro e w5 ⟨v5, rfl, ho5, hb5⟩
      have HB5 : Hid (Below w.heap.size w w5) := Lib.hid (by have HBB := HB4.out; (repeat (first | (with_reducible exact Below.refl _ _) | (with_reducible assumption) | (with_reducible apply bl_alloc) | (with_reducible apply bl_drewN) | (with_reducible apply bl_drew) | (with_reducible refine bl_set ?_ (by first | (simp; done) | (simp; omega)) _) | (with_reducible refine bl_call ?_ (by assumption)))))
      clear hb5
      obtain ⟨p, c, rfl, hT, -, -⟩ := own_toks ho5
      have hL : (l.length : Int) ≤ 9223372036854775807 := by have := hT.2.1; omega
      clear ho5 IN IT hT
      go_wp2_with fail
      refine (awake_any w5 (HE.out.below HB5.out)).mono ?_
      rintro e w9 ⟨rfl, hb9⟩
      go_wp2_with fail
      go_ret
      exact ⟨rfl, by have HBB := HB5.out; (repeat (first | (with_reducible exact Below.refl _ _) | (with_reducible assumption) | (with_reducible apply bl_alloc) | (with_reducible apply bl_drewN) | (with_reducible apply bl_drew) | (with_reducible refine bl_set ?_ (by first | (simp; done) | (simp; omega)) _) | (with_reducible refine bl_call ?_ (by assumption))))⟩
  | some v =>
    have HV := numO_some.1 ho
    have eS : num v = s := num_eq.2 HV.2.2
    have t1 : ((num v).toList == s.toList) = true := by rw [eS]; simp
    have hv0 := HV.1
    have hv1 := HV.2.1
    have IV := fun w1 => text01 v (by omega) (by omega) w1
    clear ho HV
    simp only at I1 I2 IN
    rcases gb with rfl | ⟨rfl, rfl⟩
    all_goals
      go_enter Tryd.func7, Tryd.ntmps7
      go_wp2_with fail
      refine I1.mono ?_
      rintro e w1 ⟨rfl, hb1⟩
      have HB1 : Hid (Below w.heap.size w w1) := Lib.hid hb1
      clear hb1 I1
      go_wp2_with fail
      refine (I2 w1).mono ?_
      rintro e w2 ⟨rfl, rfl⟩
      clear I2
      go_wp2_with fail
      refine (IV _).mono ?_
      rintro e w3 ⟨rfl, rfl⟩
      clear IV
      go_wp2_with fail
      refine (text01 n h0 h1 _).mono ?_
      rintro e w9 ⟨rfl, rfl⟩
      go_wp2_with fail
      refine (IN _ HB1.out).mono ?_
      rintro e w4 ⟨rfl, hb4⟩
      have HB4 : Hid (Below w.heap.size w w4) := Lib.hid (by have HBB := HB1.out; (repeat (first | (with_reducible exact Below.refl _ _) | (with_reducible assumption) | (with_reducible apply bl_alloc) | (with_reducible apply bl_drewN) | (with_reducible apply bl_drew) | (with_reducible refine bl_set ?_ (by first | (simp; done) | (simp; omega)) _) | (with_reducible refine bl_call ?_ (by assumption)))))
      clear hb4
      go_wp2_with fail
      refine (text01 n h0 h1 w4).mono ?_
      rintro e w9 ⟨rfl, rfl⟩
      go_wp2_with fail
      refine (IT _ HB4.out).mono ?_
      rintro e w5 ⟨v5, rfl, ho5, hb5⟩
      have HB5 : Hid (Below w.heap.size w w5) := Lib.hid (by have HBB := HB4.out; (repeat (first | (with_reducible exact Below.refl _ _) | (with_reducible assumption) | (with_reducible apply bl_alloc) | (with_reducible apply bl_drewN) | (with_reducible apply bl_drew) | (with_reducible refine bl_set ?_ (by first | (simp; done) | (simp; omega)) _) | (with_reducible refine bl_call ?_ (by assumption)))))
      clear hb5
      obtain ⟨p, c, rfl, hT, -, -⟩ := own_toks ho5
      have hL : (l.length : Int) ≤ 9223372036854775807 := by have := hT.2.1; omega
      clear ho5 IN IT hT
      go_wp2_with fail
      refine (awake_any w5 (HE.out.below HB5.out)).mono ?_
      rintro e w9 ⟨rfl, hb9⟩
      go_wp2_with fail
      go_ret
      exact ⟨rfl, by have HBB := HB5.out; (repeat (first | (with_reducible exact Below.refl _ _) | (with_reducible assumption) | (with_reducible apply bl_alloc) | (with_reducible apply bl_drewN) | (with_reducible apply bl_drew) | (with_reducible refine bl_set ?_ (by first | (simp; done) | (simp; omega)) _) | (with_reducible refine bl_call ?_ (by assumption))))⟩
theorem lexNumbers_walk (s : ByteArray) (n : Int) (w : World) (hs : s.size ≤ 140737488355328) (h0 : -9223372036854775808 ≤ n) (h1 : n ≤ 9223372036854775807) (hE : Env w) : Calls Tryd.prog 7 #[.string s, .int .i64 n] w (Gives (.bool true) w) := by
  by_cases g0 : 0 ≤ n
  · by_cases g1 : n ≤ 1000000000000
    · exact numbers_in s n _ w hs h0 h1 hE rfl g0 g1
    · exact numbers_out s n _ w hs h0 h1 hE rfl _ _ (decide_eq_true g0) (decide_eq_false g1) (.inr ⟨rfl, rfl⟩)
  · exact numbers_out s n _ w hs h0 h1 hE rfl _ _ (decide_eq_false g0) rfl (.inl rfl)
end Go.Proofs.YtilnojcbebchdaaDoor.Lx
