/-
  The contract of package frac's Floor.
-/
import Derived.Test.YtnfddeoddjmpkabDoorSub
namespace Go.Proofs.YtnfddeoddjmpkabDoor
open Go.RowKit
set_option maxHeartbeats 8000000
theorem floor_no {n d k : Int} (h : floorB n d k = false) : floorR n d k = 0 := by unfold floorR; rw [h]; rfl
theorem floorB_bad {n d k : Int} (h : okF n d = false ∨ k < 0 ∨ 1000000000000 < k) : floorB n d k = false := by
  unfold floorB
  rcases h with h | h | h
  · rw [h]; rfl
  · rw [Bool.and_eq_false_iff]; right; simp; omega
  · rw [Bool.and_eq_false_iff]; right; simp; omega
def FloCut (w : World) (a b x y : Int) (s : Value) (wx : World) : Prop :=
  ∃ g, s = .pointer (some ⟨g, 0, none⟩) ∧ two wx g (.int .i64 x) (.int .u64 y) ∧ two wx w.heap.size (.int .i64 a) (.int .i64 b) ∧ Below w.heap.size w wx
theorem floor_raised (n k : Int) {d : Int} (hd : 1 ≤ d) : (n * k + 4611686018427387904 * d) / d = floorZ n d k + 4611686018427387904 := by
  unfold floorZ
  rw [Int.add_mul_ediv_right _ _ (by omega)]
theorem floor_both (a k : Int) (B : Nat) (h1 : okF a (B : Int) = true) (k0 : 0 ≤ k) (k1 : k ≤ 1000000000000) (w : World) :
    Calls Tryd.prog 16 #[.agg #[.int .i64 a, .int .i64 (B : Int)], .int .i64 k] w (Gives (.tuple #[.int .i64 (floorR a B k), .bool (floorB a B k)]) w) := by
  have H1 := Lib.hid h1
  obtain ⟨p1, p2, p3, p4, -⟩ := okF_true h1
  obtain ⟨K, rfl⟩ := Int.eq_ofNat_of_zero_le k0
  obtain ⟨P, eP⟩ : ∃ T, a * (K : Int) = T := ⟨_, rfl⟩
  obtain ⟨Q, eQ⟩ : ∃ T, 4611686018427387904 * (B : Int) = T := ⟨_, rfl⟩
  obtain ⟨T, eT⟩ : ∃ T, P + Q = T := ⟨_, rfl⟩
  have sP := mul_small (n := K) p3 p4 (by omega)
  rw [eP] at sP
  have sQ : 0 ≤ Q ∧ Q ≤ 4611686018427387904000000000000000 := by omega
  have fz := floor_raised a (K : Int) p1
  rw [eP, eQ, eT] at fz
  obtain ⟨f, ef⟩ : ∃ f, T / (B : Int) = f := ⟨_, rfl⟩
  rw [ef] at fz
  have V1 := Lib.hid (times_any a K P (by omega) (by omega) (by omega) (by omega) eP)
  have V2 := Lib.hid (times_any 4611686018427387904 B Q (by omega) (by omega) (by omega) (by omega) eQ)
  have V3 := Lib.hid (plus_any P Q ⟨by omega, by omega⟩ ⟨by omega, by omega⟩)
  rw [eT] at V3
  obtain ⟨x, ex⟩ : ∃ x, T / 18446744073709551616 = x := ⟨_, rfl⟩
  obtain ⟨y, ey⟩ : ∃ y, T % 18446744073709551616 = y := ⟨_, rfl⟩
  rw [ex, ey] at V3
  have bd : floorB a B K = decide (-4611686018427387904 ≤ f - 4611686018427387904 ∧ f - 4611686018427387904 ≤ 4611686018427387904) := by
    unfold floorB
    rw [h1, Bool.true_and, decide_eq_decide]
    omega
  have yn : ∃ l : Nat, y = (l : Int) ∧ l < 18446744073709551616 := ⟨y.toNat, by omega, by omega⟩
  obtain ⟨l, rfl, l1⟩ := yn
  -- what the tests say of the quotient
  have tA : x < 0 → f < 0 := fun h => by rw [← ef]; exact Int.ediv_neg_of_neg_of_pos (by omega) (by omega)
  have tB : (B : Int) ≤ x → 18446744073709551616 ≤ f := fun h => by
    rw [← ef, Int.le_ediv_iff_mul_le (by omega)]; omega
  have tC : 0 ≤ x → x < (B : Int) → ∃ m t r : Nat, x = (m : Int) ∧ f = (t : Int) ∧ m < B ∧ t < 18446744073709551616 ∧ (m * 18446744073709551616 + l) / B = t ∧ (m * 18446744073709551616 + l) % B = r := fun h h2 => by
    obtain ⟨m, rfl⟩ := Int.eq_ofNat_of_zero_le h
    have e : T = ((m * 18446744073709551616 + l : Nat) : Int) := by omega
    refine ⟨m, (m * 18446744073709551616 + l) / B, _, rfl, ?_, by omega, ?_, rfl, rfl⟩
    · rw [← ef, e]; exact (Int.natCast_ediv _ _).symm
    · rw [Nat.div_lt_iff_lt_mul (by omega)]
      have : (m + 1) * 18446744073709551616 ≤ B * 18446744073709551616 := Nat.mul_le_mul_right _ (by omega)
      rw [Nat.mul_comm]; omega
  have FZ := Lib.hid fz
  have BD := Lib.hid bd
  have TA := Lib.hid tA
  have TB := Lib.hid tB
  have TC := Lib.hid tC
  clear h1 eP eQ eT ef ex ey sP sQ fz bd tA tB tC
  go_enter Tryd.func16, Tryd.ntmps16
  go_wp2_with fail
  refine (valid_any a B (by omega) (by omega) (by omega) (by omega) _).mono ?_
  rintro e w2 ⟨rfl, hb1⟩
  rw [H1.out]
  have A2 : two w2 (w.heap.size) (.int .i64 a) (.int .i64 B) := two.call (by refine ⟨?_, ?_, ?_, ?_, ?_⟩ <;> first | (go_simp; done) | (simp; done) | (simp; omega)) hb1
  obtain ⟨a0, a1, a2, a3, a4⟩ := A2
  have A2 : two _ _ _ _ := ⟨a0, a1, a2, a3, a4⟩
  go_upto_region 3 with (fail)
  go_cut [6] (FloCut w a B x l)
  case first =>
    go_region_held3 (fun w' => w'.cell? ⟨w.heap.size, 0, none⟩ = some (.int .i64 a) ∧ w'.cell? ⟨w.heap.size, 1, none⟩ = some (.int .i64 (B : Int))) (first | exact ⟨A5.1, A5.2.1⟩ | exact ⟨(two.alloc A5).1, (two.alloc A5).2.1⟩ | exact ⟨(two.far A5 (by omega)).1, (two.far A5 (by omega)).2.1⟩ | exact ⟨A4.1, A4.2.1⟩ | exact ⟨(two.alloc A4).1, (two.alloc A4).2.1⟩ | exact ⟨(two.far A4 (by omega)).1, (two.far A4 (by omega)).2.1⟩ | exact ⟨A3.1, A3.2.1⟩ | exact ⟨(two.alloc A3).1, (two.alloc A3).2.1⟩ | exact ⟨(two.far A3 (by omega)).1, (two.far A3 (by omega)).2.1⟩ | exact ⟨A2.1, A2.2.1⟩ | exact ⟨(two.alloc A2).1, (two.alloc A2).2.1⟩ | exact ⟨(two.far A2 (by omega)).1, (two.far A2 (by omega)).2.1⟩)
      (first
        | (go_at_call_of 23 (Value.int .i64 a); refine (V1.out _).mono ?_; rintro e w3 ⟨rfl, hb3⟩; (first | (have D3 := two.on hb3 D2; have A3 := two.on hb3 A2; have za3 := A3.2.2.2.2; have zd3 := D3.2.2.2.2) | (have D3 : two _ w2.heap.size _ _ := two.on hb3 two.new; have A3 := two.on hb3 (two.alloc A2); have za3 := A3.2.2.2.2; have zd3 := D3.2.2.2.2) | (have A3 := two.on hb3 A2; have za3 := A3.2.2.2.2)))
        | (go_at_call_of 23 (Value.int .i64 4611686018427387904); refine (V2.out _).mono ?_; rintro e w4 ⟨rfl, hb4⟩; (first | (have D4 := two.on hb4 D3; have A4 := two.on hb4 A3; have za4 := A4.2.2.2.2; have zd4 := D4.2.2.2.2) | (have D4 : two _ w3.heap.size _ _ := two.on hb4 two.new; have A4 := two.on hb4 (two.alloc A3); have za4 := A4.2.2.2.2; have zd4 := D4.2.2.2.2) | (have A4 := two.on hb4 A3; have za4 := A4.2.2.2.2)))
        | (go_at_call 24; refine (V3.out _).mono ?_; rintro e w5 ⟨rfl, hb5⟩; (first | (have D5 := two.on hb5 D4; have A5 := two.on hb5 A4; have za5 := A5.2.2.2.2; have zd5 := D5.2.2.2.2) | (have D5 : two _ w4.heap.size _ _ := two.on hb5 two.new; have A5 := two.on hb5 (two.alloc A4); have za5 := A5.2.2.2.2; have zd5 := D5.2.2.2.2) | (have A5 := two.on hb5 A4; have za5 := A5.2.2.2.2)); (first | (obtain ⟨d0, d1, d2, d3, d4⟩ := D5; have D5 : two _ _ _ _ := ⟨d0, d1, d2, d3, d4⟩) | skip)))
    all_goals
      go_wp2_with fail
      go_meet
      first
        | exact ⟨_, rfl, two.new, A5.alloc, by repeat (first | exact Below.refl _ _ | assumption | apply bl_alloc | apply bl_drewN | apply bl_drew | (refine bl_set ?_ (by first | (simp; done) | (simp; omega)) _) | (refine bl_call ?_ (by assumption)))⟩
        | exact ⟨_, rfl, two.set2 D5, two.far A5 (by omega), by repeat (first | exact Below.refl _ _ | assumption | apply bl_alloc | apply bl_drewN | apply bl_drew | (refine bl_set ?_ (by first | (simp; done) | (simp; omega)) _) | (refine bl_call ?_ (by assumption)))⟩
  case rest =>
    obtain ⟨gT, rfl, T5, A5, hB⟩ := hcut
    clear a0 a1 a2 a3 a4
    obtain ⟨t0, t1, t2, t3, t4⟩ := T5
    have T5 : two _ _ _ _ := ⟨t0, t1, t2, t3, t4⟩
    obtain ⟨a0, a1, a2, a3, a4⟩ := A5
    have A5 : two _ _ _ _ := ⟨a0, a1, a2, a3, a4⟩
    by_cases hx : x < 0
    · have hno : Hid (floorB a B K = false) := by rw [BD.out]; exact decide_eq_false (by have := TA.out hx; omega)
      go_wp2_with fail
      go_ret2
      exact ⟨(show Ending.returned (.tuple #[.int .i64 0, .bool false]) = .returned (.tuple #[.int .i64 (floorR a B K), .bool (floorB a B K)]) by rw [floor_no hno.out, hno.out]), by repeat (first | exact Below.refl _ _ | assumption | apply bl_alloc | apply bl_drewN | apply bl_drew | (refine bl_set ?_ (by first | (simp; done) | (simp; omega)) _) | (refine bl_call ?_ (by assumption)))⟩
    · by_cases hy : (B : Int) ≤ x
      · have hno : Hid (floorB a B K = false) := by rw [BD.out]; exact decide_eq_false (by have := TB.out hy; omega)
        go_wp2_with fail
        go_ret2
        exact ⟨(show Ending.returned (.tuple #[.int .i64 0, .bool false]) = .returned (.tuple #[.int .i64 (floorR a B K), .bool (floorB a B K)]) by rw [floor_no hno.out, hno.out]), by repeat (first | exact Below.refl _ _ | assumption | apply bl_alloc | apply bl_drewN | apply bl_drew | (refine bl_set ?_ (by first | (simp; done) | (simp; omega)) _) | (refine bl_call ?_ (by assumption)))⟩
      · obtain ⟨m, t, r, rfl, rfl, m1, t1, et, er⟩ := TC.out (by omega) (by omega)
        have V4 := Lib.hid (div64_any m l B t r m1 l1 (by omega) et er)
        clear et er hx hy
        go_wp2_with fail
        refine (V4.out _).mono ?_
        rintro e w6 ⟨rfl, n1, rfl⟩
        by_cases ht : 9223372036854775808 < t
        · have hno : Hid (floorB a B K = false) := by rw [BD.out]; exact decide_eq_false (by omega)
          have k9 : decide ((9223372036854775808 : Int) < (t : Int)) = true := by simp; omega
          clear ht
          go_wp2_with fail
          go_ret2
          exact ⟨(show Ending.returned (.tuple #[.int .i64 0, .bool false]) = .returned (.tuple #[.int .i64 (floorR a B K), .bool (floorB a B K)]) by rw [floor_no hno.out, hno.out]), by repeat (first | exact Below.refl _ _ | assumption | apply bl_alloc | apply bl_drewN | apply bl_drew | (refine bl_set ?_ (by first | (simp; done) | (simp; omega)) _) | (refine bl_call ?_ (by assumption)))⟩
        · have hyes : Hid (floorB a B K = true) := by rw [BD.out]; exact decide_eq_true (by omega)
          have k9 : decide ((9223372036854775808 : Int) < (t : Int)) = false := by simp; omega
          have hw : IntKind.i64.wrap (IntKind.u64.wrap ((t : Int) - 4611686018427387904)) = (t : Int) - 4611686018427387904 := by rw [IntKind.wrap_u64, IntKind.wrap_i64]; omega
          have hz : Hid (floorR a B K = (t : Int) - 4611686018427387904) := by unfold floorR; rw [hyes.out, if_pos rfl]; have := FZ.out; show floorZ a B K = _; omega
          clear ht
          go_wp2_with fail
          go_ret2
          exact ⟨(show Ending.returned (.tuple #[.int .i64 ((t : Int) - 4611686018427387904), .bool true]) = .returned (.tuple #[.int .i64 (floorR a B K), .bool (floorB a B K)]) by rw [hz.out, hyes.out]), by repeat (first | exact Below.refl _ _ | assumption | apply bl_alloc | apply bl_drewN | apply bl_drew | (refine bl_set ?_ (by first | (simp; done) | (simp; omega)) _) | (refine bl_call ?_ (by assumption)))⟩
theorem floor_any (a b k : Int) (n0 : -9223372036854775808 ≤ a) (n1 : a ≤ 9223372036854775807) (d0 : -9223372036854775808 ≤ b) (d1 : b ≤ 9223372036854775807) (_ : -9223372036854775808 ≤ k) (_ : k ≤ 9223372036854775807) (w : World) :
    Calls Tryd.prog 16 #[.agg #[.int .i64 a, .int .i64 b], .int .i64 k] w (Gives (.tuple #[.int .i64 (floorR a b k), .bool (floorB a b k)]) w) := by
  cases h1 : okF a b
  · have hb := floorB_bad (k := k) (Or.inl h1)
    rw [floor_no hb, hb]
    have H1 := Lib.hid h1
    clear h1 hb
    go_enter Tryd.func16, Tryd.ntmps16
    go_wp2_with fail
    refine (valid_any a b (by omega) (by omega) (by omega) (by omega) _).mono ?_
    rintro e w1 ⟨rfl, hb1⟩
    rw [H1.out]
    go_wp2_with fail
    go_ret2
    exact ⟨rfl, by repeat (first | exact Below.refl _ _ | assumption | apply bl_alloc | apply bl_drewN | apply bl_drew | (refine bl_set ?_ (by first | (simp; done) | (simp; omega)) _) | (refine bl_call ?_ (by assumption)))⟩
  · by_cases hk : k < 0 ∨ 1000000000000 < k
    · have hb := floorB_bad (n := a) (d := b) (Or.inr hk)
      rw [floor_no hb, hb]
      have H1 := Lib.hid h1
      clear h1 hb
      have hk : k < 0 ∨ 0 ≤ k ∧ 1000000000000 < k := by omega
      rcases hk with h | ⟨h, h'⟩
      all_goals
        go_enter Tryd.func16, Tryd.ntmps16
        go_wp2_with fail
        refine (valid_any a b (by omega) (by omega) (by omega) (by omega) _).mono ?_
        rintro e w1 ⟨rfl, hb1⟩
        rw [H1.out]
        go_wp2_with fail
        go_ret2
        exact ⟨rfl, by repeat (first | exact Below.refl _ _ | assumption | apply bl_alloc | apply bl_drewN | apply bl_drew | (refine bl_set ?_ (by first | (simp; done) | (simp; omega)) _) | (refine bl_call ?_ (by assumption)))⟩
    · obtain ⟨B, rfl⟩ := Int.eq_ofNat_of_zero_le (a := b) (by have := (okF_true h1).1; omega)
      exact floor_both a k B h1 (by omega) (by omega) w
end Go.Proofs.YtnfddeoddjmpkabDoor
