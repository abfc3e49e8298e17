/-
  The law of blanks, comments and line feeds behind a text, walked.
-/
import Derived.Test.YtilnojcbebchdaaDoorLxAwake
import Derived.Test.YtilnojcbebchdaaDoorLxBlk
import Derived.Test.YtilnojcbebchdaaDoorLxSame
namespace Go.Proofs.YtilnojcbebchdaaDoor.Lx
open Go.RowKit
set_option maxHeartbeats 8000000
set_option linter.unusedVariables false
set_option linter.unusedSimpArgs false
theorem all_mem {l : List UInt8} (h : All inlC l l.length) : ∀ c ∈ l, inlC c = true := by
  intro c hc
  obtain ⟨j, hj, rfl⟩ := List.getElem_of_mem hc
  exact h j hj hj
theorem tok_behind {s note : ByteArray} {b : UInt8} (hb : b = 32 ∨ b = 9) (hA : All inlC (bs note) note.size) (h1 : s.size ≤ 300) (h2 : note.size ≤ 100) :
    tokL (bs (s ++ ⟨#[32, b]⟩ ++ ⟨#[35]⟩ ++ note)) = tokL (bs s) ∧ tokN (bs (s ++ ⟨#[32, b]⟩ ++ ⟨#[35]⟩ ++ note)) = tokN (bs s) ∧ tokE (bs (s ++ ⟨#[32, b]⟩ ++ ⟨#[35]⟩ ++ note)) = tokE (bs s) := by
  have e : bs (s ++ ⟨#[32, b]⟩ ++ ⟨#[35]⟩ ++ note) = bs s ++ (32 :: b :: 35 :: bs note) := by
    rw [bs_app, bs_app, bs_app, List.append_assoc, List.append_assoc]
    rfl
  rw [e]
  exact tok_gap hb (all_mem (by rw [bs_len]; exact hA)) (by rw [bs_len]; exact h1) (by rw [bs_len]; exact h2)
theorem behind_size {s note : ByteArray} {b : UInt8} : (s ++ ⟨#[32, b]⟩ ++ ⟨#[35]⟩ ++ note).size = s.size + 2 + 1 + note.size := by
  rw [ByteArray.size_append, ByteArray.size_append, ByteArray.size_append]; rfl
theorem tok_lined {s : ByteArray} (h1 : s.size ≤ 300) : Nxt (tokL (bs s)) (tokL (bs (s ++ ⟨#[10]⟩))) ∧ tokN (bs (s ++ ⟨#[10]⟩)) = tokN (bs s) ∧ tokE (bs (s ++ ⟨#[10]⟩)) = tokE (bs s) := by
  rw [bs_app]
  exact tok_feed (by rw [bs_len]; exact h1)
theorem lined_size {s : ByteArray} : (s ++ ⟨#[10]⟩).size = s.size + 1 := by rw [ByteArray.size_append]; rfl
set_option maxRecDepth 100000 in
theorem lexBlanks_walk (s note : ByteArray) (tabs : Bool) (w : World) (hs : s.size ≤ 140737488355328) (hs2 : note.size ≤ 140737488355328) (hE : Env w) : Calls Tryd.prog 8 #[.string s, .string note, .bool tabs] w (Gives (.bool true) w) := by
  have HE := Lib.hid hE
  have hs' : (s.size : Int) ≤ 9223372036854775807 := by omega
  have hn' : (note.size : Int) ≤ 9223372036854775807 := by omega
  clear hE
  by_cases h1 : 300 < s.size
  · have q : decide ((300 : Int) < (s.size : Int)) = true := decide_eq_true (by omega)
    go_enter Tryd.func8, Tryd.ntmps8
    go_wp2_with fail
    refine (awake_any w (HE.out.below (Below.refl w.heap.size w))).mono ?_
    rintro e w9 ⟨rfl, hb9⟩
    go_wp2_with fail
    go_ret
    exact ⟨rfl, by have HBB := (Below.refl w.heap.size w); (repeat (first | (with_reducible exact Below.refl _ _) | (with_reducible assumption) | (with_reducible apply bl_alloc) | (with_reducible apply bl_drewN) | (with_reducible apply bl_drew) | (with_reducible refine bl_set ?_ (by first | (simp; done) | (simp; omega)) _) | (with_reducible refine bl_call ?_ (by assumption))))⟩
  · have q : decide ((300 : Int) < (s.size : Int)) = false := decide_eq_false (by omega)
    by_cases h2 : 100 < note.size
    · have q2 : decide ((100 : Int) < (note.size : Int)) = true := decide_eq_true (by omega)
      go_enter Tryd.func8, Tryd.ntmps8
      go_wp2_with fail
      refine (awake_any w (HE.out.below (Below.refl w.heap.size w))).mono ?_
      rintro e w9 ⟨rfl, hb9⟩
      go_wp2_with fail
      go_ret
      exact ⟨rfl, by have HBB := (Below.refl w.heap.size w); (repeat (first | (with_reducible exact Below.refl _ _) | (with_reducible assumption) | (with_reducible apply bl_alloc) | (with_reducible apply bl_drewN) | (with_reducible apply bl_drew) | (with_reducible refine bl_set ?_ (by first | (simp; done) | (simp; omega)) _) | (with_reducible refine bl_call ?_ (by assumption))))⟩
    · have q2 : decide ((100 : Int) < (note.size : Int)) = false := decide_eq_false (by omega)
      have HS1 : Hid (s.size ≤ 300) := Lib.hid (by omega)
      have HS2 : Hid (note.size ≤ 100) := Lib.hid (by omega)
      have z1 : (s.size : Int) + 2 ≤ 9223372036854775807 := by omega
      have z2 : (s.size : Int) + 2 + 1 ≤ 9223372036854775807 := by omega
      have z3 : (s.size : Int) + 2 + 1 + (note.size : Int) ≤ 9223372036854775807 := by omega
      have z4 : (s.size : Int) + 1 ≤ 9223372036854775807 := by omega
      go_enter Tryd.func8, Tryd.ntmps8
      go_wp2_with fail
      go_loop [7] (fun i => ∃ k : Nat, k ≤ note.size ∧ i = .int .i64 (k : Nat) ∧ Hid (All inlC (bs note) k)) (fun i => note.size - (intOf i).toNat)
      case atStart => exact ⟨0, Nat.zero_le _, rfl, Lib.hid all_zero⟩
      case round =>
        obtain ⟨k, hk, rfl, HG⟩ := hrel
        have d1 : (0 : Int) ≤ (k : Int) := by omega
        rcases Nat.lt_or_ge k note.size with h | h
        · have d2 : (k : Int) < (note.size : Int) := by omega
          have hkl : k < (bs note).length := by rw [bs_len]; exact h
          have HD : Hid (inlC (bs note)[k] = inlI ((note[k]).toNat : Int)) := Lib.hid rfl
          by_cases g1 : (((note[k]).toNat : Nat) : Int) = 10
          · have b10 : (((note[k]).toNat : Int) == 10) = true := by rw [beq_iff_eq]; exact g1
            clear g1 HD
            go_wp2_with fail
            refine (awake_any w (HE.out.below (Below.refl w.heap.size w))).mono ?_
            rintro e w9 ⟨rfl, hb9⟩
            go_wp2_with fail
            go_ret
            exact ⟨rfl, by have HBB := (Below.refl w.heap.size w); (repeat (first | (with_reducible exact Below.refl _ _) | (with_reducible assumption) | (with_reducible apply bl_alloc) | (with_reducible apply bl_drewN) | (with_reducible apply bl_drew) | (with_reducible refine bl_set ?_ (by first | (simp; done) | (simp; omega)) _) | (with_reducible refine bl_call ?_ (by assumption))))⟩
          · have b10 : (((note[k]).toNat : Int) == 10) = false := by rw [beq_eq_false_iff_ne]; exact g1
            have HY2 := Lib.hid (all_step hkl HG.out (by rw [HD.out]; unfold inlI; rw [decide_eq_false g1]; rfl))
            clear g1 HD
            go_wp2_with fail
            go_round
            case rel => exact ⟨k + 1, by omega, by go_num, HY2⟩
            case measure => simp [intOf]; omega
        · obtain rfl : k = note.size := by omega
          have hQ := tok_lined HS1.out
          obtain ⟨l, hl⟩ : ∃ l, tokL (bs s) = l := ⟨_, rfl⟩
          obtain ⟨m, hm⟩ : ∃ m, tokN (bs s) = m := ⟨_, rfl⟩
          obtain ⟨x, hx⟩ : ∃ x, tokE (bs s) = x := ⟨_, rfl⟩
          obtain ⟨r, hr⟩ : ∃ r, tokL (bs (s ++ ⟨#[10]⟩)) = r := ⟨_, rfl⟩
          rw [hl, hm, hx, hr] at hQ
          have HQ : Hid (Nxt l r) := Lib.hid hQ.1
          have I1 := tokens_at (s := s) ⟨hl, hm, hx⟩ (by omega) w HE.out
          have I3 := fun w1 (hb : Below w.heap.size w w1) => tokens_at (s := s ++ ⟨#[10]⟩) ⟨hr, hQ.2.1, hQ.2.2⟩ (by rw [lined_size]; omega) w1 (HE.out.below hb)
          have HI2 : Hid (∀ b : UInt8, b = 32 ∨ b = 9 → ∀ w1, Below w.heap.size w w1 → Calls Tryd.prog 11 #[.string (s ++ ⟨#[32, b]⟩ ++ ⟨#[35]⟩ ++ note)] w1 (Tokd w1 l m x)) := Lib.hid fun b hb w1 hw => by
            have hT := tok_behind (s := s) hb HG.out HS1.out HS2.out
            rw [hl, hm, hx] at hT
            exact tokens_at hT (by rw [behind_size]; omega) w1 (HE.out.below hw)
          clear hQ hl hm hx hr HG
          obtain ⟨n, hN⟩ : ∃ n, l.length = n := ⟨_, rfl⟩
          have HL := Lib.hid hN
          have hRN : r.length = n := by rw [HQ.out.1, hN]
          have HRL := Lib.hid hRN
          cases tabs
          · have I2 := HI2.out 32 (.inl rfl)
            clear HI2
            go_wp2_with fail
            refine I1.mono ?_
            rintro e w1 ⟨v1, rfl, ho1, hb1⟩
            obtain ⟨p1, c1, rfl, hT1, -, -⟩ := own_toks ho1
            rw [hN] at hT1 ⊢
            have HB1 := Lib.hid hb1
            clear hb1 ho1 I1
            go_wp2_with fail
            refine (I2 w1 HB1.out).mono ?_
            rintro e w2 ⟨v2, rfl, ho2, hb2⟩
            obtain ⟨p2, c2, rfl, hT2, -, -⟩ := own_toks ho2
            rw [hN] at hT2 ⊢
            have HB2 : Hid (Below w.heap.size w w2) := Lib.hid (by have HBB := HB1.out; (repeat (first | (with_reducible exact Below.refl _ _) | (with_reducible assumption) | (with_reducible apply bl_alloc) | (with_reducible apply bl_drewN) | (with_reducible apply bl_drew) | (with_reducible refine bl_set ?_ (by first | (simp; done) | (simp; omega)) _) | (with_reducible refine bl_call ?_ (by assumption)))))
            have hT12 := hT1.on hb2
            clear hb2 ho2 I2 hT1
            go_wp2_with fail
            refine (I3 w2 HB2.out).mono ?_
            rintro e w3 ⟨v3, rfl, ho3, hb3⟩
            obtain ⟨p3, c3, rfl, hT3, -, -⟩ := own_toks ho3
            rw [hRN] at hT3 ⊢
            have HB3 : Hid (Below w.heap.size w w3) := Lib.hid (by have HBB := HB2.out; (repeat (first | (with_reducible exact Below.refl _ _) | (with_reducible assumption) | (with_reducible apply bl_alloc) | (with_reducible apply bl_drewN) | (with_reducible apply bl_drew) | (with_reducible refine bl_set ?_ (by first | (simp; done) | (simp; omega)) _) | (with_reducible refine bl_call ?_ (by assumption)))))
            have I4 := same_yes (c := c1) (d := c2) w3 (hT12.on hb3) (hT2.on hb3)
            have HT1 := Lib.hid (hT12.on hb3)
            have HT3 := Lib.hid hT3
            clear hb3 ho3 I3 hT12 hT2 hT3
            go_wp2_with fail
            refine I4.mono ?_
            rintro e w4 ⟨rfl, hb4⟩
            have HB4 : Hid (Below w.heap.size w w4) := Lib.hid (by have HBB := HB3.out; (repeat (first | (with_reducible exact Below.refl _ _) | (with_reducible assumption) | (with_reducible apply bl_alloc) | (with_reducible apply bl_drewN) | (with_reducible apply bl_drew) | (with_reducible refine bl_set ?_ (by first | (simp; done) | (simp; omega)) _) | (with_reducible refine bl_call ?_ (by assumption)))))
            have HU1 := Lib.hid (HT1.out.on hb4)
            have HU3 := Lib.hid (HT3.out.on hb4)
            have hn : (n : Int) ≤ 9223372036854775807 := by have := HT1.out.2.1; omega
            clear hb4 I4 HT1 HT3 hN hRN
            go_wp2_with fail
            go_loopw [18] (fun i wr => ∃ k : Nat, k ≤ n ∧ i = .int .i64 (k : Nat) ∧ Hid (Below w4.heap.size w4 wr)) (fun i wr => n - (intOf i).toNat)
            case atStart => exact ⟨0, Nat.zero_le _, rfl, Lib.hid (Below.refl _ _)⟩
            case round =>
              obtain ⟨k, hk, rfl, HBR⟩ := hrel
              have d1 : (0 : Int) ≤ (k : Int) := by omega
              rcases Nat.lt_or_ge k n with h | h
              · have d2 : (k : Int) < (n : Int) := by omega
                obtain ⟨M, hM⟩ : ∃ M, n = M + 1 := ⟨n - 1, by omega⟩
                have c1 : (n : Int) - 1 = (M : Int) := by omega
                obtain ⟨b, o, rfl, hb, hc⟩ := toks_at (HU1.out.on HBR.out) h
                obtain ⟨b2, o2, rfl, hb2, hc2⟩ := toks_at (HU3.out.on HBR.out) h
                have hkl : k < l.length := by rw [HL.out]; exact h
                have hkr : k < r.length := by rw [HRL.out]; exact h
                obtain ⟨e1, e2, e3, e4⟩ := hc k hkl
                obtain ⟨f1, f2, f3, f4⟩ := hc2 k hkr
                have hq := HQ.out.2 k hkl hkr
                rw [HL.out] at hq
                obtain ⟨X, hX⟩ : ∃ X, l[k] = X := ⟨_, rfl⟩
                obtain ⟨Y, hY⟩ : ∃ Y, r[k] = Y := ⟨_, rfl⟩
                rw [hX] at e1 e2 e3 e4 hq
                rw [hY] at f1 f2 f3 f4 hq
                clear hX hY hc hc2 hkl hkr
                by_cases g : k + 1 < n
                · obtain rfl := hq.1 g
                  obtain ⟨K, T, N, L⟩ := Y
                  simp only at e1 e2 e3 e4 f1 f2 f3 f4
                  have t1 : (T.toList == T.toList) = true := by simp
                  have q5 : (k : Int) < (M : Int) := by omega
                  have q6 : decide ((k : Int) < (M : Int)) = true := decide_eq_true q5
                  have q7 : ((k : Int) == (M : Int)) = false := by rw [beq_eq_false_iff_ne]; omega
                  clear hq g hM
                  go_wp2_with fail
                  go_quiet (fail)
                  all_goals
                    go_wp2_with fail
                    go_roundw
                    case rel => exact ⟨k + 1, by omega, by go_num, Lib.hid (by have HBB := HBR.out; (repeat (first | (with_reducible exact Below.refl _ _) | (with_reducible assumption) | (with_reducible apply bl_alloc) | (with_reducible apply bl_drewN) | (with_reducible apply bl_drew) | (with_reducible refine bl_set ?_ (by first | (simp; done) | (simp; omega)) _) | (with_reducible refine bl_call ?_ (by assumption)))))⟩
                    case measure => simp [intOf]; omega
                · obtain ⟨u1, u2, u3⟩ := hq.2 (by omega)
                  obtain ⟨K, T, N, L⟩ := X
                  obtain ⟨K2, T2, N2, L2⟩ := Y
                  simp only at e1 e2 e3 e4 f1 f2 f3 f4 u1 u2 u3
                  subst u1
                  obtain rfl : k = M := by omega
                  have q6 : decide ((k : Int) < (k : Int)) = false := decide_eq_false (by omega)
                  clear hq g hM
                  go_wp2_with fail
                  go_quiet (fail)
                  all_goals
                    go_wp2_with fail
                    go_roundw
                    case rel => exact ⟨k + 1, by omega, by go_num, Lib.hid (by have HBB := HBR.out; (repeat (first | (with_reducible exact Below.refl _ _) | (with_reducible assumption) | (with_reducible apply bl_alloc) | (with_reducible apply bl_drewN) | (with_reducible apply bl_drew) | (with_reducible refine bl_set ?_ (by first | (simp; done) | (simp; omega)) _) | (with_reducible refine bl_call ?_ (by assumption)))))⟩
                    case measure => simp [intOf]; omega
              · obtain rfl : k = n := by omega
                have HB5 : Hid (Below w.heap.size w wr) := Lib.hid (by have HBB := HB4.out; have HBC := HBR.out; (repeat (first | (with_reducible exact Below.refl _ _) | (with_reducible assumption) | (with_reducible apply bl_alloc) | (with_reducible apply bl_drewN) | (with_reducible apply bl_drew) | (with_reducible refine bl_set ?_ (by first | (simp; done) | (simp; omega)) _) | (with_reducible refine bl_call ?_ (by assumption)))))
                go_wp2_with fail
                refine (awake_any wr (HE.out.below HB5.out)).mono ?_
                rintro e w9 ⟨rfl, hb9⟩
                go_wp2_with fail
                go_ret
                exact ⟨rfl, by have HBB := HB5.out; (repeat (first | (with_reducible exact Below.refl _ _) | (with_reducible assumption) | (with_reducible apply bl_alloc) | (with_reducible apply bl_drewN) | (with_reducible apply bl_drew) | (with_reducible refine bl_set ?_ (by first | (simp; done) | (simp; omega)) _) | (with_reducible refine bl_call ?_ (by assumption))))⟩
          · have I2 := HI2.out 9 (.inr rfl)
            clear HI2
            go_wp2_with fail
            refine I1.mono ?_
            rintro e w1 ⟨v1, rfl, ho1, hb1⟩
            obtain ⟨p1, c1, rfl, hT1, -, -⟩ := own_toks ho1
            rw [hN] at hT1 ⊢
            have HB1 := Lib.hid hb1
            clear hb1 ho1 I1
            go_wp2_with fail
            refine (I2 w1 HB1.out).mono ?_
            rintro e w2 ⟨v2, rfl, ho2, hb2⟩
            obtain ⟨p2, c2, rfl, hT2, -, -⟩ := own_toks ho2
            rw [hN] at hT2 ⊢
            have HB2 : Hid (Below w.heap.size w w2) := Lib.hid (by have HBB := HB1.out; (repeat (first | (with_reducible exact Below.refl _ _) | (with_reducible assumption) | (with_reducible apply bl_alloc) | (with_reducible apply bl_drewN) | (with_reducible apply bl_drew) | (with_reducible refine bl_set ?_ (by first | (simp; done) | (simp; omega)) _) | (with_reducible refine bl_call ?_ (by assumption)))))
            have hT12 := hT1.on hb2
            clear hb2 ho2 I2 hT1
            go_wp2_with fail
            refine (I3 w2 HB2.out).mono ?_
            rintro e w3 ⟨v3, rfl, ho3, hb3⟩
            obtain ⟨p3, c3, rfl, hT3, -, -⟩ := own_toks ho3
            rw [hRN] at hT3 ⊢
            have HB3 : Hid (Below w.heap.size w w3) := Lib.hid (by have HBB := HB2.out; (repeat (first | (with_reducible exact Below.refl _ _) | (with_reducible assumption) | (with_reducible apply bl_alloc) | (with_reducible apply bl_drewN) | (with_reducible apply bl_drew) | (with_reducible refine bl_set ?_ (by first | (simp; done) | (simp; omega)) _) | (with_reducible refine bl_call ?_ (by assumption)))))
            have I4 := same_yes (c := c1) (d := c2) w3 (hT12.on hb3) (hT2.on hb3)
            have HT1 := Lib.hid (hT12.on hb3)
            have HT3 := Lib.hid hT3
            clear hb3 ho3 I3 hT12 hT2 hT3
            go_wp2_with fail
            refine I4.mono ?_
            rintro e w4 ⟨rfl, hb4⟩
            have HB4 : Hid (Below w.heap.size w w4) := Lib.hid (by have HBB := HB3.out; (repeat (first | (with_reducible exact Below.refl _ _) | (with_reducible assumption) | (with_reducible apply bl_alloc) | (with_reducible apply bl_drewN) | (with_reducible apply bl_drew) | (with_reducible refine bl_set ?_ (by first | (simp; done) | (simp; omega)) _) | (with_reducible refine bl_call ?_ (by assumption)))))
            have HU1 := Lib.hid (HT1.out.on hb4)
            have HU3 := Lib.hid (HT3.out.on hb4)
            have hn : (n : Int) ≤ 9223372036854775807 := by have := HT1.out.2.1; omega
            clear hb4 I4 HT1 HT3 hN hRN
            go_wp2_with fail
            go_loopw [18] (fun i wr => ∃ k : Nat, k ≤ n ∧ i = .int .i64 (k : Nat) ∧ Hid (Below w4.heap.size w4 wr)) (fun i wr => n - (intOf i).toNat)
            case atStart => exact ⟨0, Nat.zero_le _, rfl, Lib.hid (Below.refl _ _)⟩
            case round =>
              obtain ⟨k, hk, rfl, HBR⟩ := hrel
              have d1 : (0 : Int) ≤ (k : Int) := by omega
              rcases Nat.lt_or_ge k n with h | h
              · have d2 : (k : Int) < (n : Int) := by omega
                obtain ⟨M, hM⟩ : ∃ M, n = M + 1 := ⟨n - 1, by omega⟩
                have c1 : (n : Int) - 1 = (M : Int) := by omega
                obtain ⟨b, o, rfl, hb, hc⟩ := toks_at (HU1.out.on HBR.out) h
                obtain ⟨b2, o2, rfl, hb2, hc2⟩ := toks_at (HU3.out.on HBR.out) h
                have hkl : k < l.length := by rw [HL.out]; exact h
                have hkr : k < r.length := by rw [HRL.out]; exact h
                obtain ⟨e1, e2, e3, e4⟩ := hc k hkl
                obtain ⟨f1, f2, f3, f4⟩ := hc2 k hkr
                have hq := HQ.out.2 k hkl hkr
                rw [HL.out] at hq
                obtain ⟨X, hX⟩ : ∃ X, l[k] = X := ⟨_, rfl⟩
                obtain ⟨Y, hY⟩ : ∃ Y, r[k] = Y := ⟨_, rfl⟩
                rw [hX] at e1 e2 e3 e4 hq
                rw [hY] at f1 f2 f3 f4 hq
                clear hX hY hc hc2 hkl hkr
                by_cases g : k + 1 < n
                · obtain rfl := hq.1 g
                  obtain ⟨K, T, N, L⟩ := Y
                  simp only at e1 e2 e3 e4 f1 f2 f3 f4
                  have t1 : (T.toList == T.toList) = true := by simp
                  have q5 : (k : Int) < (M : Int) := by omega
                  have q6 : decide ((k : Int) < (M : Int)) = true := decide_eq_true q5
                  have q7 : ((k : Int) == (M : Int)) = false := by rw [beq_eq_false_iff_ne]; omega
                  clear hq g hM
                  go_wp2_with fail
                  go_quiet (fail)
                  all_goals
                    go_wp2_with fail
                    go_roundw
                    case rel => exact ⟨k + 1, by omega, by go_num, Lib.hid (by have HBB := HBR.out; (repeat (first | (with_reducible exact Below.refl _ _) | (with_reducible assumption) | (with_reducible apply bl_alloc) | (with_reducible apply bl_drewN) | (with_reducible apply bl_drew) | (with_reducible refine bl_set ?_ (by first | (simp; done) | (simp; omega)) _) | (with_reducible refine bl_call ?_ (by assumption)))))⟩
                    case measure => simp [intOf]; omega
                · obtain ⟨u1, u2, u3⟩ := hq.2 (by omega)
                  obtain ⟨K, T, N, L⟩ := X
                  obtain ⟨K2, T2, N2, L2⟩ := Y
                  simp only at e1 e2 e3 e4 f1 f2 f3 f4 u1 u2 u3
                  subst u1
                  obtain rfl : k = M := by omega
                  have q6 : decide ((k : Int) < (k : Int)) = false := decide_eq_false (by omega)
                  clear hq g hM
                  go_wp2_with fail
                  go_quiet (fail)
                  all_goals
                    go_wp2_with fail
                    go_roundw
                    case rel => exact ⟨k + 1, by omega, by go_num, Lib.hid (by have HBB := HBR.out; (repeat (first | (with_reducible exact Below.refl _ _) | (with_reducible assumption) | (with_reducible apply bl_alloc) | (with_reducible apply bl_drewN) | (with_reducible apply bl_drew) | (with_reducible refine bl_set ?_ (by first | (simp; done) | (simp; omega)) _) | (with_reducible refine bl_call ?_ (by assumption)))))⟩
                    case measure => simp [intOf]; omega
              · obtain rfl : k = n := by omega
                have HB5 : Hid (Below w.heap.size w wr) := Lib.hid (by have HBB := HB4.out; have HBC := HBR.out; (repeat (first | (with_reducible exact Below.refl _ _) | (with_reducible assumption) | (with_reducible apply bl_alloc) | (with_reducible apply bl_drewN) | (with_reducible apply bl_drew) | (with_reducible refine bl_set ?_ (by first | (simp; done) | (simp; omega)) _) | (with_reducible refine bl_call ?_ (by assumption)))))
                go_wp2_with fail
                refine (awake_any wr (HE.out.below HB5.out)).mono ?_
                rintro e w9 ⟨rfl, hb9⟩
                go_wp2_with fail
                go_ret
                exact ⟨rfl, by have HBB := HB5.out; (repeat (first | (with_reducible exact Below.refl _ _) | (with_reducible assumption) | (with_reducible apply bl_alloc) | (with_reducible apply bl_drewN) | (with_reducible apply bl_drew) | (with_reducible refine bl_set ?_ (by first | (simp; done) | (simp; omega)) _) | (with_reducible refine bl_call ?_ (by assumption))))⟩
end Go.Proofs.YtilnojcbebchdaaDoor.Lx
