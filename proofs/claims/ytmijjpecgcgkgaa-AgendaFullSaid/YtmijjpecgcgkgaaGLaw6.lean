/-
  The statement AgendaFull, walked.
-/
import Derived.Test.YtmijjpecgcgkgaaGAwake2
import Derived.Test.YtmijjpecgcgkgaaGPut2
namespace Go.Proofs.Ytmijjpecgcgkgaa.Ag
open Go.RowKit
set_option maxHeartbeats 8000000
def atL (i : Nat) : Ev := atEv (i : Int) (i : Int) 1
theorem full_out (n : Int) (w : World) (h : n < 4990 ∨ 5010 < n) : Calls Try.prog 8 #[.int .i64 n] w (Gives (.bool true) w) := by
  rcases h with h | h
  · go_enter Try.func8, Try.ntmps8
    go_wp2_with fail
    refine (awake_any _).mono ?_
    rintro e w1 ⟨rfl, hb1⟩
    go_wp2_with fail
    go_ret
    exact ⟨rfl, by (repeat (first | (with_reducible exact Below.refl _ _) | (with_reducible assumption) | (with_reducible apply bl_alloc) | (with_reducible apply bl_drewN) | (with_reducible apply bl_drew) | (with_reducible refine bl_set ?_ (by first | (simp; done) | (simp; omega)) _) | (with_reducible refine bl_call ?_ (by assumption))))⟩
  · have h2 : 4990 ≤ n := by omega
    go_enter Try.func8, Try.ntmps8
    go_wp2_with fail
    refine (awake_any _).mono ?_
    rintro e w1 ⟨rfl, hb1⟩
    go_wp2_with fail
    go_ret
    exact ⟨rfl, by (repeat (first | (with_reducible exact Below.refl _ _) | (with_reducible assumption) | (with_reducible apply bl_alloc) | (with_reducible apply bl_drewN) | (with_reducible apply bl_drew) | (with_reducible refine bl_set ?_ (by first | (simp; done) | (simp; omega)) _) | (with_reducible refine bl_call ?_ (by assumption))))⟩
theorem atL_ev {i : Nat} (h : i ≤ 5010) : evE (atL i) = 0 := by
  have h1 : upB (i : Int) 1000000000 = true := by unfold upB; simp; omega
  have h2 : upB (i : Int) 1000000000000 = true := by unfold upB; simp; omega
  have hr : rngB (atL i) = true := by
    unfold rngB
    show (upB (i : Int) 1000000000 && (upB 1 100 && (upB 0 15 && (upB 0 15 && (upB (i : Int) 1000000000000 && (upB 1 1000000000000 && upB 0 1000000000000)))))) = true
    rw [h1, h2]; decide
  exact evE_a hr (by show ¬ (2 : Int) < 1; omega) (by show ¬ 5 < (2 : Int); omega) (by show ¬ 6 < 0; omega) rfl
theorem atL_lt {i j : Nat} (h : i < j) : Lt (atL i) (atL j) := .inl (by show (i : Int) < (j : Int); omega)
theorem atL_good {n : Nat} (h : n ≤ 5000) : Good atL n := ⟨h, fun i hi => atL_ev (by omega), fun i hi => atL_lt (by omega)⟩
theorem full_chk {n : Nat} (h : n ≤ 5000) : chkE atL n = 0 := chkE_zero.2 (atL_good h)
theorem full_fnd {n : Nat} : fnd atL (atL n) n = false := by
  cases h : fnd atL (atL n) n
  · rfl
  · obtain ⟨i, hi, ht⟩ := fnd_iff.1 h
    have : (i : Int) = (n : Int) := ht.1
    omega
theorem full_put {n : Nat} (h : n ≤ 5010) : putE atL n (atL n) = if 5000 < n then 6 else if n = 5000 then 13 else 0 := by
  unfold putE
  by_cases h1 : 5000 < n
  · rw [if_pos h1, chkE_long h1, if_neg (by decide)]
  · rw [if_neg h1, if_pos (full_chk (by omega)), if_pos (atL_ev h), full_fnd, if_neg (by decide)]
theorem zero_ev : evE (atEv 0 0 2) = 0 := by decide +kernel
theorem full_put0 {n : Nat} (h : 0 < n) : putE atL n (atEv 0 0 2) = if 5000 < n then 6 else 4 := by
  unfold putE
  by_cases h1 : 5000 < n
  · rw [if_pos h1, chkE_long h1, if_neg (by decide)]
  · have hf : fnd atL (atEv 0 0 2) n = true := fnd_iff.2 ⟨0, h, ⟨rfl, rfl, rfl, rfl⟩⟩
    rw [if_neg h1, if_pos (full_chk (by omega)), if_pos zero_ev, if_pos hf]
def FullRel (w : World) (k : Nat) (v : Value) (wr : World) : Prop := wr.ownsRow w.heap.size 25 9 v k (flat atL k) ∧ Below w.heap.size w wr
def PutIs (w : World) (z : Int) (m : Nat) (e : Ending) (w' : World) : Prop := ∃ p c, e = .returned (.tuple #[.slice p m c, .int .i64 z]) ∧ Below w.heap.size w w'
theorem full_in (n : Nat) (N : Int) (HN : Hid (N = (n : Int))) (z z0 zc : Int) (m m0 : Nat) (w : World) (n1 : 4990 ≤ N) (n2 : N ≤ 5010)
    (P1 : Hid (∀ w2 p c, Evs w2 p n atL → WL p n c → Calls Try.prog 18 #[.slice p n c, .agg #[.int .i64 N, .int .i64 1, .int .i64 0, .int .i64 N, .int .i64 0, .int .i64 2, .int .i64 1, .int .i64 0, .slice none 0 0]] w2 (PutIs w2 z m))) (P2 : Hid (∀ w2 p c, Evs w2 p n atL → WL p n c → Calls Try.prog 18 #[.slice p n c, .agg #[.int .i64 0, .int .i64 1, .int .i64 0, .int .i64 0, .int .i64 0, .int .i64 2, .int .i64 2, .int .i64 0, .slice none 0 0]] w2 (PutIs w2 z0 m0))) (CK : Hid (∀ w2 p c, Evs w2 p n atL → Calls Try.prog 16 #[.slice p n c] w2 (Gives (.int .i64 zc) w2)))
    (hz : Hid (5000 < n ∧ zc = 6 ∧ z = 6 ∧ z0 = 6 ∧ m = 0 ∨ n = 5000 ∧ zc = 0 ∧ z = 13 ∧ z0 = 4 ∧ m = 0 ∨ n < 5000 ∧ zc = 0 ∧ z = 0 ∧ z0 = 4 ∧ m = n + 1)) : Calls Try.prog 8 #[.int .i64 N] w (Gives (.bool true) w) := by
  go_enter Try.func8, Try.ntmps8
  go_wp2_with fail
  go_loopw [3, 4] (fun v i wr => ∃ k : Nat, k ≤ n ∧ i = .int .i64 k ∧ FullRel w k v wr) (fun _ i _ => n - (intOf i).toNat)
  case atStart => exact ⟨0, Nat.zero_le _, rfl, World.ownsRow_nil _ _ _ _, Below.refl _ _⟩
  case round =>
    obtain ⟨k, hk, rfl, HR⟩ := hrel
    have c1 : (0 : Int) ≤ (k : Int) := by omega
    rcases Nat.lt_or_ge k n with h | h
    · have c2 : (k : Int) < N := by have := HN.out; omega
      obtain ⟨ho, hb⟩ := HR
      have HO := Lib.hid ho
      clear ho
      go_wp2_with fail
      refine (at_any _ _ _ _).mono ?_
      rintro e w1 ⟨rfl, hb1⟩
      have hB : Below wr.heap.size wr (w1.alloc (.cells #[.int .i64 (k : Int), .int .i64 1, .int .i64 0, .int .i64 (k : Int), .int .i64 0, .int .i64 2, .int .i64 1, .int .i64 0, .slice none 0 0] 25)) := by (repeat (first | (with_reducible exact Below.refl _ _) | (with_reducible assumption) | (with_reducible apply bl_alloc) | (with_reducible apply bl_drewN) | (with_reducible apply bl_drew) | (with_reducible refine bl_set ?_ (by first | (simp; done) | (simp; omega)) _) | (with_reducible refine bl_call ?_ (by assumption))))
      have E1 : Evs (w1.alloc (.cells #[.int .i64 (k : Int), .int .i64 1, .int .i64 0, .int .i64 (k : Int), .int .i64 0, .int .i64 2, .int .i64 1, .int .i64 0, .slice none 0 0] 25)) (some ⟨w1.heap.size, 0, none⟩) 1 (fun _ => atL k) := one_ev (x := atL k) (ok_at rfl)
      have hB2 := bl_call hb hB
      obtain ⟨v2, w2, hrun, ho2, hb2⟩ := append_evs (own_below HO.out hB) (c := 1) E1 (by have := HN.out; omega) hB2.size
      have hfl : flat (glue atL k (fun _ => atL k)) (k + 1) = flat atL (k + 1) := flat_congr fun i hi => by
        by_cases e : i < k
        · exact glue_l e
        · rw [glue_r (by omega)]; congr 1; omega
      rw [hfl] at ho2
      have HO2 : Hid (FullRel w (k + 1) v2 w2) := Lib.hid ⟨ho2, hb2 w rfl hB2⟩
      clear E1 ho2 hb2 hfl
      go_wp2_with (at_builtin; refine Lib.wpList_append_run _ rfl _ _ _ _ rfl _ _ rfl rfl _ _ hrun ?_)
      go_roundw
      case rel => exact ⟨k + 1, by omega, by go_num, HO2.out⟩
      case measure => simp [intOf]; omega
    · obtain rfl : n = k := by omega
      obtain ⟨ho, hb⟩ := HR
      rcases ho.2 with ⟨-, h0⟩ | ⟨g, cap, cur, rfl, hg, hcur, hcap, -⟩
      · have := HN.out; omega
      have hgl : g < wr.heap.size := (Array.getElem?_eq_some_iff.1 hcur).1
      clear hcur
      have HE : Evs wr (some ⟨g, 0, none⟩) n atL := ⟨by have := HN.out; omega, .inr ⟨g, 0, rfl, hgl, Lib.hid fun i hi => ⟨cells_own ho hi, ok_at rfl⟩⟩⟩
      have HW : Hid (WL (some ⟨g, 0, none⟩) n cap) := Lib.hid ⟨hcap, .inr ⟨g, 0, rfl⟩⟩
      have c2 : N ≤ (n : Int) := by have := HN.out; omega
      clear ho hcap h hk
      go_wp2_with fail
      refine (at_any _ _ _ _).mono ?_
      rintro e w1 ⟨rfl, hb1⟩
      have HE1 := Evs.on hb1 HE
      go_wp2_with fail
      refine (P1.out _ _ _ HE1 HW.out).mono ?_
      rintro e w2 ⟨p2, c2, rfl, hb2⟩
      have HE2 := Evs.on hb2 HE1
      go_wp2_with fail
      refine (at_any 0 0 2 _).mono ?_
      rintro e w3 ⟨rfl, hb3⟩
      have HE3 := Evs.on hb3 HE2
      go_wp2_with fail
      refine (P2.out _ _ _ HE3 HW.out).mono ?_
      rintro e w4 ⟨p4, c4, rfl, hb4⟩
      have HE4 := Evs.on hb4 HE3
      have BB : Below w.heap.size w w4 := by (repeat (first | (with_reducible exact Below.refl _ _) | (with_reducible assumption) | (with_reducible apply bl_alloc) | (with_reducible apply bl_drewN) | (with_reducible apply bl_drew) | (with_reducible refine bl_set ?_ (by first | (simp; done) | (simp; omega)) _) | (with_reducible refine bl_call ?_ (by assumption))))
      clear HE HE1 HE2 HE3 hb1 hb2 hb3 hb4
      rcases hz.out with ⟨h5, rfl, rfl, rfl, rfl⟩ | ⟨h5, rfl, rfl, rfl, rfl⟩ | ⟨h5, rfl, rfl, rfl, rfl⟩
      · have g5 : (5000 : Int) < N := by have := HN.out; omega
        clear h5
        go_wp2_with fail
        refine (CK.out _ _ _ HE4).mono ?_
        rintro e w5 ⟨rfl, hb5⟩
        go_wp2_with fail
        refine (awake_any _).mono ?_
        rintro e w6 ⟨rfl, hb6⟩
        go_wp2_with fail
        go_ret
        exact ⟨rfl, by (repeat (first | (with_reducible exact Below.refl _ _) | (with_reducible assumption) | (with_reducible apply bl_alloc) | (with_reducible apply bl_drewN) | (with_reducible apply bl_drew) | (with_reducible refine bl_set ?_ (by first | (simp; done) | (simp; omega)) _) | (with_reducible refine bl_call ?_ (by assumption))))⟩
      · have g5 : (N == 5000) = true := by have := HN.out; rw [beq_iff_eq]; omega
        have g6 : N ≤ 5000 := by have := HN.out; omega
        clear h5
        go_wp2_with fail
        refine (CK.out _ _ _ HE4).mono ?_
        rintro e w5 ⟨rfl, hb5⟩
        go_wp2_with fail
        refine (awake_any _).mono ?_
        rintro e w6 ⟨rfl, hb6⟩
        go_wp2_with fail
        go_ret
        exact ⟨rfl, by (repeat (first | (with_reducible exact Below.refl _ _) | (with_reducible assumption) | (with_reducible apply bl_alloc) | (with_reducible apply bl_drewN) | (with_reducible apply bl_drew) | (with_reducible refine bl_set ?_ (by first | (simp; done) | (simp; omega)) _) | (with_reducible refine bl_call ?_ (by assumption))))⟩
      · have g5 : (N == 5000) = false := by have := HN.out; rw [beq_eq_false_iff_ne]; omega
        have g6 : N ≤ 5000 := by have := HN.out; omega
        have g7 : ((n : Int) + 1 == N + 1) = true := by have := HN.out; rw [beq_iff_eq]; omega
        have g8 : ((n : Int) == N) = true := by have := HN.out; rw [beq_iff_eq]; omega
        have g9 : IntKind.i64.wrap (N + 1) = N + 1 := by rw [IntKind.wrap_i64]; omega
        clear h5
        go_wp2_with fail
        refine (CK.out _ _ _ HE4).mono ?_
        rintro e w5 ⟨rfl, hb5⟩
        go_wp2_with fail
        refine (awake_any _).mono ?_
        rintro e w6 ⟨rfl, hb6⟩
        go_wp2_with fail
        go_ret
        exact ⟨rfl, by (repeat (first | (with_reducible exact Below.refl _ _) | (with_reducible assumption) | (with_reducible apply bl_alloc) | (with_reducible apply bl_drewN) | (with_reducible apply bl_drew) | (with_reducible refine bl_set ?_ (by first | (simp; done) | (simp; omega)) _) | (with_reducible refine bl_call ?_ (by assumption))))⟩
theorem put_is {w w' : World} {z z2 : Int} {m : Nat} {E : Nat → Ev} {e : Ending} (h : ListsZ w m z E e w') (hz : z = z2) : PutIs w z2 m e w' := by
  obtain ⟨p, c, F, h1, -, -, -, h5⟩ := h
  subst hz
  exact ⟨p, c, h1, h5⟩
theorem agendaFull_walk (n : Int) (_h0 : -9223372036854775808 ≤ n) (_h1 : n ≤ 9223372036854775807) (w : World) : Calls Try.prog 8 #[.int .i64 n] w (Gives (.bool true) w) := by
  by_cases h : n < 4990 ∨ 5010 < n
  · exact full_out n w h
  · obtain ⟨k, rfl⟩ : ∃ k : Nat, n = (k : Int) := ⟨n.toNat, by omega⟩
    refine full_in k (k : Int) (Lib.hid rfl) (putE atL k (atL k)) (putE atL k (atEv 0 0 2)) (chkE atL k) (putN atL k (atL k)) (putN atL k (atEv 0 0 2)) w (by omega) (by omega)
      (Lib.hid fun w2 p c hE hW => (put_any p k c atL (atL k) w2 hE hW (ok_at rfl)).mono fun _ _ h => put_is h rfl) (Lib.hid fun w2 p c hE hW => (put_any p k c atL (atEv 0 0 2) w2 hE hW (ok_at rfl)).mono fun _ _ h => put_is h rfl) (Lib.hid fun w2 p c hE => check_any p k c atL w2 hE) (Lib.hid ?_)
    unfold putN
    rw [full_put (by omega), full_put0 (by omega)]
    rcases Nat.lt_trichotomy k 5000 with h5 | h5 | h5
    · rw [if_neg (by omega), if_neg (by omega), if_neg (by omega), full_chk (by omega)]
      exact .inr (.inr ⟨h5, rfl, rfl, rfl, rfl⟩)
    · rw [if_neg (by omega), if_pos h5, if_neg (by omega), full_chk (by omega)]
      exact .inr (.inl ⟨h5, rfl, rfl, rfl, rfl⟩)
    · rw [if_pos h5, if_pos h5, chkE_long h5]
      exact .inl ⟨h5, rfl, rfl, rfl, rfl⟩
end Go.Proofs.Ytmijjpecgcgkgaa.Ag
