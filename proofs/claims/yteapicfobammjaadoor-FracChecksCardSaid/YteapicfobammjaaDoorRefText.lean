/-
  The contracts of the reference's Digits and Text.
-/
import Derived.Test.YteapicfobammjaaDoorRefCmp2
import Derived.Test.YteapicfobammjaaDoorText
namespace Go.Proofs.YteapicfobammjaaDoor
open Go.RowKit
set_option maxHeartbeats 1000000
theorem num_digit (d : Nat) (h : d < 10) : num (d : Int) = ⟨#[UInt8.ofNat (48 + d)]⟩ := by
  unfold num
  rw [itoa_small (d : Int) (by omega) (by omega)]
  rfl
theorem rdigits_digit (n : Nat) (h1 : n < 10) (w : World) : Calls Tryd.prog 43 #[.int .u64 (n : Nat)] w fun e w' => e = .returned (.string (num n)) ∧ w = w' := by
  have h : n = 0 ∨ n = 1 ∨ n = 2 ∨ n = 3 ∨ n = 4 ∨ n = 5 ∨ n = 6 ∨ n = 7 ∨ n = 8 ∨ n = 9 := by omega
  rcases h with rfl | rfl | rfl | rfl | rfl | rfl | rfl | rfl | rfl | rfl
  all_goals
    rw [num_digit _ (by omega)]
    go_enter Tryd.func43, Tryd.ntmps43
    go_wp2_with fail
    go_ret
    exact ⟨rfl, rfl⟩
theorem ret_str {a b : ByteArray} (h : a = b) : Ending.returned (.string a) = .returned (.string b) := by rw [h]
theorem num_join {a b c : Int} (h : Lib.itoa c = Lib.itoa a ++ Lib.itoa b) : num a ++ num b = num c := by
  refine WideShapes.bytes_inj ?_
  rw [num_list, h]
  show (num a ++ num b).data.toList = _
  simp [num, ByteArray.data_append]
theorem num_minus (n : Int) (h : n < 0) : (⟨#[45]⟩ : ByteArray) ++ num (-n) = num n := by
  refine WideShapes.bytes_inj ?_
  rw [num_list, itoa_neg n h]
  show ((⟨#[45]⟩ : ByteArray) ++ num (-n)).data.toList = _
  simp [num, ByteArray.data_append]
def inI (n : Nat) : Prop := n ≤ 9223372036854775807
theorem rdigits_walk (n q r : Nat) (e0 : decide ((n : Int) < 10) = false) (e1 : (n : Int) / 10 = (q : Int)) (e2 : (n : Int) % 10 = (r : Int)) (e3 : IntKind.u64.wrap (q : Int) = (q : Int)) (s1 : (num q).size ≤ 20) (s2 : (num r).size ≤ 20) (HJ : Hid (num q ++ num r = num n))
    (Q : Hid (∀ w, Calls Tryd.prog 43 #[.int .u64 (q : Nat)] w fun e w' => e = .returned (.string (num q)) ∧ w = w')) (R : Hid (∀ w, Calls Tryd.prog 43 #[.int .u64 (r : Nat)] w fun e w' => e = .returned (.string (num r)) ∧ w = w')) (w : World) :
    Calls Tryd.prog 43 #[.int .u64 (n : Nat)] w fun e w' => e = .returned (.string (num n)) ∧ w = w' := by
  go_enter Tryd.func43, Tryd.ntmps43
  go_wp2_with fail
  refine (Q.out _).mono ?_
  rintro e w' ⟨rfl, rfl⟩
  go_wp2_with fail
  refine (R.out _).mono ?_
  rintro e w' ⟨rfl, rfl⟩
  go_wp2_with fail
  go_ret
  exact ⟨ret_str HJ.out, rfl⟩
theorem rdigits_any (n : Nat) (hn : n ≤ 9223372036854775807) (w : World) : Calls Tryd.prog 43 #[.int .u64 (n : Nat)] w fun e w' => e = .returned (.string (num n)) ∧ w = w' := by
  induction n using Nat.strongRecOn generalizing w with
  | _ n ih =>
    by_cases hs : n < 10
    · exact rdigits_digit n hs w
    · have hj := num_join (itoa_big (n : Int) (by omega))
      refine rdigits_walk n (n / 10) (n % 10) (decide_eq_false (by omega)) rfl rfl (by rw [IntKind.wrap_u64]; omega) (num_size20 _ (by omega) (by omega)) (num_size20 _ (by omega) (by omega)) (Lib.hid hj) (Lib.hid fun w => ih (n / 10) (by omega) (by omega) w) (Lib.hid fun w => ih (n % 10) (by omega) (by omega) w) w
theorem rtext_walk (a b : Int) (n0 : -9223372036854775808 ≤ a) (n1 : a ≤ 9223372036854775807) (d0 : -9223372036854775808 ≤ b) (d1 : b ≤ 9223372036854775807) (t : ByteArray) (u v : ByteArray) (H1 : Hid (okF a b = true)) (s1 : u.size ≤ 20) (s2 : v.size ≤ 20)
    (D1 : Hid (∀ w, Calls Tryd.prog 43 #[.int .u64 (absN a : Nat)] w fun e w' => e = .returned (.string u) ∧ w = w')) (D2 : Hid (∀ w, Calls Tryd.prog 43 #[.int .u64 (absN b : Nat)] w fun e w' => e = .returned (.string v) ∧ w = w'))
    (hc : Hid ((decide (a < 0) = true ∧ (b != 1) = true ∧ (⟨#[45]⟩ : ByteArray) ++ u ++ ⟨#[47]⟩ ++ v = t) ∨ (decide (a < 0) = true ∧ (b != 1) = false ∧ (⟨#[45]⟩ : ByteArray) ++ u = t) ∨ (decide (a < 0) = false ∧ (b != 1) = true ∧ u ++ ⟨#[47]⟩ ++ v = t) ∨ (decide (a < 0) = false ∧ (b != 1) = false ∧ u = t)))
    (w : World) : Calls Tryd.prog 15 #[.agg #[.int .i64 a, .int .i64 b]] w (Gives (.string t) w) := by
  have t1 : ((⟨#[45]⟩ : ByteArray) ++ u).size ≤ 21 := by rw [ByteArray.size_append]; show 1 + u.size ≤ 21; omega
  have t2 : (u ++ (⟨#[47]⟩ : ByteArray)).size ≤ 21 := by rw [ByteArray.size_append]; show u.size + 1 ≤ 21; omega
  have t3 : ((⟨#[45]⟩ : ByteArray) ++ u ++ (⟨#[47]⟩ : ByteArray)).size ≤ 22 := by rw [ByteArray.size_append]; show (_ ++ u).size + 1 ≤ 22; omega
  rcases hc.out with ⟨h1, h2, h3⟩ | ⟨h1, h2, h3⟩ | ⟨h1, h2, h3⟩ | ⟨h1, h2, h3⟩
  · clear hc
    go_enter Tryd.func15, Tryd.ntmps15
    go_wp2_with fail
    refine (rvalid_any a b n0 n1 d0 d1 _).mono ?_
    rintro e w1 ⟨rfl, hb1⟩
    rw [H1.out]
    have A1 := two.on hb1 two.new
    obtain ⟨a0, a1, a2, a3, a4⟩ := A1
    have A1 : two _ _ _ _ := ⟨a0, a1, a2, a3, a4⟩
    go_wp2_with fail
    refine (size_any a n0 n1 _).mono ?_
    rintro e wx ⟨rfl, rfl⟩
    go_wp2_with fail
    refine (D1.out _).mono ?_
    rintro e wx ⟨rfl, rfl⟩
    go_wp2_with fail
    refine (size_any b d0 d1 _).mono ?_
    rintro e wx ⟨rfl, rfl⟩
    go_wp2_with fail
    refine (D2.out _).mono ?_
    rintro e wx ⟨rfl, rfl⟩
    go_wp2_with fail
    go_ret
    exact ⟨rfl, by (repeat (first | (with_reducible exact Below.refl _ _) | (with_reducible assumption) | (with_reducible apply bl_alloc) | (with_reducible apply bl_drewN) | (with_reducible apply bl_drew) | (with_reducible refine bl_set ?_ (by first | (simp; done) | (simp; omega)) _) | (with_reducible refine bl_call ?_ (by assumption))))⟩
  · clear hc
    go_enter Tryd.func15, Tryd.ntmps15
    go_wp2_with fail
    refine (rvalid_any a b n0 n1 d0 d1 _).mono ?_
    rintro e w1 ⟨rfl, hb1⟩
    rw [H1.out]
    have A1 := two.on hb1 two.new
    obtain ⟨a0, a1, a2, a3, a4⟩ := A1
    have A1 : two _ _ _ _ := ⟨a0, a1, a2, a3, a4⟩
    go_wp2_with fail
    refine (size_any a n0 n1 _).mono ?_
    rintro e wx ⟨rfl, rfl⟩
    go_wp2_with fail
    refine (D1.out _).mono ?_
    rintro e wx ⟨rfl, rfl⟩
    go_wp2_with fail
    go_ret
    exact ⟨rfl, by (repeat (first | (with_reducible exact Below.refl _ _) | (with_reducible assumption) | (with_reducible apply bl_alloc) | (with_reducible apply bl_drewN) | (with_reducible apply bl_drew) | (with_reducible refine bl_set ?_ (by first | (simp; done) | (simp; omega)) _) | (with_reducible refine bl_call ?_ (by assumption))))⟩
  · clear hc
    go_enter Tryd.func15, Tryd.ntmps15
    go_wp2_with fail
    refine (rvalid_any a b n0 n1 d0 d1 _).mono ?_
    rintro e w1 ⟨rfl, hb1⟩
    rw [H1.out]
    have A1 := two.on hb1 two.new
    obtain ⟨a0, a1, a2, a3, a4⟩ := A1
    have A1 : two _ _ _ _ := ⟨a0, a1, a2, a3, a4⟩
    go_wp2_with fail
    refine (size_any a n0 n1 _).mono ?_
    rintro e wx ⟨rfl, rfl⟩
    go_wp2_with fail
    refine (D1.out _).mono ?_
    rintro e wx ⟨rfl, rfl⟩
    go_wp2_with fail
    refine (size_any b d0 d1 _).mono ?_
    rintro e wx ⟨rfl, rfl⟩
    go_wp2_with fail
    refine (D2.out _).mono ?_
    rintro e wx ⟨rfl, rfl⟩
    go_wp2_with fail
    go_ret
    exact ⟨rfl, by (repeat (first | (with_reducible exact Below.refl _ _) | (with_reducible assumption) | (with_reducible apply bl_alloc) | (with_reducible apply bl_drewN) | (with_reducible apply bl_drew) | (with_reducible refine bl_set ?_ (by first | (simp; done) | (simp; omega)) _) | (with_reducible refine bl_call ?_ (by assumption))))⟩
  · clear hc
    go_enter Tryd.func15, Tryd.ntmps15
    go_wp2_with fail
    refine (rvalid_any a b n0 n1 d0 d1 _).mono ?_
    rintro e w1 ⟨rfl, hb1⟩
    rw [H1.out]
    have A1 := two.on hb1 two.new
    obtain ⟨a0, a1, a2, a3, a4⟩ := A1
    have A1 : two _ _ _ _ := ⟨a0, a1, a2, a3, a4⟩
    go_wp2_with fail
    refine (size_any a n0 n1 _).mono ?_
    rintro e wx ⟨rfl, rfl⟩
    go_wp2_with fail
    refine (D1.out _).mono ?_
    rintro e wx ⟨rfl, rfl⟩
    go_wp2_with fail
    go_ret
    exact ⟨rfl, by (repeat (first | (with_reducible exact Below.refl _ _) | (with_reducible assumption) | (with_reducible apply bl_alloc) | (with_reducible apply bl_drewN) | (with_reducible apply bl_drew) | (with_reducible refine bl_set ?_ (by first | (simp; done) | (simp; omega)) _) | (with_reducible refine bl_call ?_ (by assumption))))⟩
theorem rtext_any (a b : Int) (n0 : -9223372036854775808 ≤ a) (n1 : a ≤ 9223372036854775807) (d0 : -9223372036854775808 ≤ b) (d1 : b ≤ 9223372036854775807) (w : World) : Calls Tryd.prog 15 #[.agg #[.int .i64 a, .int .i64 b]] w (Gives (.string (txt a b)) w) := by
  cases h1 : okF a b
  · have H1 := Lib.hid h1
    rw [show txt a b = ⟨#[]⟩ by unfold txt; rw [h1]; rfl]
    clear h1
    go_enter Tryd.func15, Tryd.ntmps15
    go_wp2_with fail
    refine (rvalid_any a b n0 n1 d0 d1 _).mono ?_
    rintro e w1 ⟨rfl, hb1⟩
    rw [H1.out]
    go_wp2_with fail
    go_ret
    exact ⟨rfl, by (repeat (first | (with_reducible exact Below.refl _ _) | (with_reducible assumption) | (with_reducible apply bl_alloc) | (with_reducible apply bl_drewN) | (with_reducible apply bl_drew) | (with_reducible refine bl_set ?_ (by first | (simp; done) | (simp; omega)) _) | (with_reducible refine bl_call ?_ (by assumption))))⟩
  · obtain ⟨p1, p2, p3, p4, -⟩ := okF_true h1
    have sa : absN a ≤ 4611686018427387904 := by unfold absN; omega
    have sb : absN b ≤ 1000000000000000 := by unfold absN; omega
    have eb : ((absN b : Nat) : Int) = b := by unfold absN; omega
    refine rtext_walk a b n0 n1 d0 d1 (txt a b) (num (absN a : Nat)) (num (absN b : Nat)) (Lib.hid h1) (num_size20 _ (by omega) (by omega)) (num_size20 _ (by omega) (by omega)) (Lib.hid (rdigits_any (absN a) (by omega))) (Lib.hid (rdigits_any (absN b) (by omega))) (Lib.hid ?_) w
    have et : txt a b = if b = 1 then num a else num a ++ slash ++ num b := by unfold txt; rw [h1]; rfl
    rw [et, eb]
    by_cases ha : a < 0
    · have en : ((absN a : Nat) : Int) = -a := by unfold absN; omega
      rw [en, num_minus a ha]
      by_cases hb : b = 1
      · rw [if_pos hb]; exact Or.inr (Or.inl ⟨decide_eq_true ha, by subst hb; rfl, rfl⟩)
      · rw [if_neg hb]; exact Or.inl ⟨decide_eq_true ha, bne_iff_ne.2 hb, rfl⟩
    · have en : ((absN a : Nat) : Int) = a := by unfold absN; omega
      rw [en]
      by_cases hb : b = 1
      · rw [if_pos hb]; exact Or.inr (Or.inr (Or.inr ⟨decide_eq_false ha, by subst hb; rfl, rfl⟩))
      · rw [if_neg hb]; exact Or.inr (Or.inr (Or.inl ⟨decide_eq_false ha, bne_iff_ne.2 hb, rfl⟩))
end Go.Proofs.YteapicfobammjaaDoor
