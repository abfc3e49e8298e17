/-
  The laws of what is read and of what is checked, walked.
-/
import Derived.Test.YtilnojcbebchdaaDoorLxAwake
import Derived.Test.YtilnojcbebchdaaDoorLxRTok2
import Derived.Test.YtilnojcbebchdaaDoorLxRText2
import Derived.Test.YtilnojcbebchdaaDoorLxSame
namespace Go.Proofs.YtilnojcbebchdaaDoor.Lx
open Go.RowKit
set_option maxHeartbeats 4000000
set_option linter.unusedVariables false
set_option linter.unusedSimpArgs false
/-- A list that can be read, a number and an error. -/
def TokR (w : World) (l : List Tk) (n : Nat) (x : Int) (e : Ending) (w' : World) : Prop := ∃ p c m, e = .returned (.tuple #[.slice p m c, .int .i64 (n : Int), .int .i64 x]) ∧ Toks w' p m l ∧ Below w.heap.size w w'
theorem tokr {w w' : World} {l : List Tk} {n : Nat} {x : Int} {e : Ending} (h : Tokd w l n x e w') : TokR w l n x e w' := by
  obtain ⟨v, he, ho, hb⟩ := h
  obtain ⟨p, c, rfl, hT, -, -⟩ := own_toks ho
  exact ⟨p, c, _, he, hT, hb⟩
theorem rtext_any {p : Option Addr} {n c : Nat} {l : List Tk} (w : World) (hT : Toks w p n l) (hF : ∀ x ∈ l, x.t.size ≤ 140737488355328 ∧ x.l ≤ 9223372036854775807) : Calls Tryd.prog 17 #[.slice p n c] w (Gives (txtV l) w) := by
  have hFF : Fits l := fun x hx => by have := (hF x hx).1; omega
  have I1 := rcheck_any (c := c) w hT hFF
  by_cases h0 : chkL l = 0
  · rw [h0] at I1
    obtain ⟨hor, hlk, hl0⟩ := chk_all h0
    have hll := hT.1
    have hn := hT.2.1
    obtain ⟨b, o, rfl, hb, hc⟩ := toks_at (k := 0) hT (by omega)
    obtain ⟨m, hm⟩ : ∃ m, n = m + 1 := ⟨n - 1, by omega⟩
    have hml : m < l.length := by omega
    have eL := (hc m hml).2.2.2
    have hlast : (bef l l.length).l = l[m].l := by rw [hll, hm, bef_succ hml]
    have hL1 : 1 ≤ (l[m]).l := by have h1 := line_pos l.length (Nat.le_refl _) hor m hml; rw [getD_at hml] at h1; exact h1
    have hL2 := (hF _ (List.getElem_mem hml)).2
    by_cases h2 : 20001 < (l[m]).l
    · exact rtext_far w hm hn hb eL h2 hL2 I1 (Lib.hid (txt_six h0 (.inl (by rw [hlast]; exact h2))))
    · refine rtext_in w hm hn hb hll eL h2 hL1 (Lib.hid hc) (Lib.hid fun k hk => ?_) I1 (Lib.hid fun k hk g => txt_six h0 (.inr (Nat.lt_of_lt_of_le g (tx_mono hk)))) (Lib.hid fun g => ?_)
      · have h3 := line_step hor hk
        have h4 := line_mono hor (j := k + 1) (k := l.length) hk (Nat.le_refl _)
        rw [lnB_succ hk, lnB_last hl0, hlast] at h4
        have hfm := (chk_parts hor hk).2.2.1
        refine ⟨hk, List.getElem?_eq_getElem hk, h3.1, h3.2, by omega, lnB_succ hk, ?_, fun e => fm_num hfm e, fun d g hd hg => tx_next hk hd hg⟩
        unfold wrt
        split
        · rename_i hk2
          have h5 := fm_num hfm hk2
          have := num_size _ (by omega) h5.2
          omega
        · exact (hF _ (List.getElem_mem hk)).1
      · rw [← hll]
        rw [← hll] at g
        exact txt_good h0 (by rw [hlast]; exact h2) (by omega)
  · exact rtext_chk w h0 I1 (Lib.hid (txt_chk rfl h0))
set_option maxRecDepth 100000 in
theorem lexReads_walk (s : ByteArray) (w : World) (hs : s.size ≤ 140737488355328) (hE : Env w) : Calls Tryd.prog 3 #[.string s] w (Gives (.bool true) w) := by
  have HE := Lib.hid hE
  have hs' : (s.size : Int) ≤ 9223372036854775807 := by omega
  clear hE
  by_cases h : 600 < s.size
  · have q : decide ((600 : Int) < (s.size : Int)) = true := decide_eq_true (by omega)
    go_enter Tryd.func3, Tryd.ntmps3
    go_wp2_with fail
    refine (awake_any w (HE.out.below (Below.refl w.heap.size w))).mono ?_
    rintro e w9 ⟨rfl, hb9⟩
    go_wp2_with fail
    go_ret
    exact ⟨rfl, by have HBB := (Below.refl w.heap.size w); (repeat (first | (with_reducible exact Below.refl _ _) | (with_reducible assumption) | (with_reducible apply bl_alloc) | (with_reducible apply bl_drewN) | (with_reducible apply bl_drew) | (with_reducible refine bl_set ?_ (by first | (simp; done) | (simp; omega)) _) | (with_reducible refine bl_call ?_ (by assumption))))⟩
  · have q : decide ((600 : Int) < (s.size : Int)) = false := decide_eq_false (by omega)
    have I1 := tokens_any s w (by omega) HE.out
    have I2 := fun w1 => rtokens_any s w1 (by omega)
    obtain ⟨l, hl⟩ : ∃ l, tokL (bs s) = l := ⟨_, rfl⟩
    obtain ⟨n, hn⟩ : ∃ n, tokN (bs s) = n := ⟨_, rfl⟩
    obtain ⟨x, hx⟩ : ∃ x, tokE (bs s) = x := ⟨_, rfl⟩
    rw [hl, hn, hx] at I1
    simp only [hl, hn, hx] at I2
    clear hl hn hx
    go_enter Tryd.func3, Tryd.ntmps3
    go_wp2_with fail
    refine I1.mono ?_
    rintro e w1 h1
    obtain ⟨p, c, m, rfl, hT1, hb1⟩ := tokr h1
    clear h1
    go_wp2_with fail
    refine (I2 w1).mono ?_
    rintro e w2 h2
    obtain ⟨p2, c2, m2, rfl, hT2, hb2⟩ := tokr h2
    clear h2
    have hm : m2 = m := by rw [← hT1.1, ← hT2.1]
    subst hm
    have HB2 : Hid (Below w.heap.size w w2) := Lib.hid (by (repeat (first | (with_reducible exact Below.refl _ _) | (with_reducible assumption) | (with_reducible apply bl_alloc) | (with_reducible apply bl_drewN) | (with_reducible apply bl_drew) | (with_reducible refine bl_set ?_ (by first | (simp; done) | (simp; omega)) _) | (with_reducible refine bl_call ?_ (by assumption)))))
    have I3 := same_yes (c := c) (d := c2) w2 (hT1.on hb2) hT2
    clear hT1 hT2 hb1 hb2 I1 I2
    go_wp2_with fail
    refine I3.mono ?_
    rintro e w3 ⟨rfl, hb3⟩
    have HB3 : Hid (Below w.heap.size w w3) := Lib.hid (by have HBB := HB2.out; (repeat (first | (with_reducible exact Below.refl _ _) | (with_reducible assumption) | (with_reducible apply bl_alloc) | (with_reducible apply bl_drewN) | (with_reducible apply bl_drew) | (with_reducible refine bl_set ?_ (by first | (simp; done) | (simp; omega)) _) | (with_reducible refine bl_call ?_ (by assumption)))))
    clear hb3 I3 HB2
    go_wp2_with fail
    refine (awake_any w3 (HE.out.below HB3.out)).mono ?_
    rintro e w9 ⟨rfl, hb9⟩
    go_wp2_with fail
    go_ret
    exact ⟨rfl, by have HBB := HB3.out; (repeat (first | (with_reducible exact Below.refl _ _) | (with_reducible assumption) | (with_reducible apply bl_alloc) | (with_reducible apply bl_drewN) | (with_reducible apply bl_drew) | (with_reducible refine bl_set ?_ (by first | (simp; done) | (simp; omega)) _) | (with_reducible refine bl_call ?_ (by assumption))))⟩
set_option maxRecDepth 100000 in
theorem lexChecks_walk (p : Option Addr) (n c : Nat) (l : List Tk) (w : World) (hT : Toks w p n l) (hF : ∀ x ∈ l, x.t.size ≤ 140737488355328 ∧ x.l ≤ 9223372036854775807) (hE : Env w) : Calls Tryd.prog 5 #[.slice p n c] w (Gives (.bool true) w) := by
  have HE := Lib.hid hE
  have hn : (n : Int) ≤ 9223372036854775807 := by have := hT.2.1; omega
  have HT := Lib.hid hT
  have HL := Lib.hid hT.1
  have HF := Lib.hid hF
  have HFF : Hid (Fits l) := Lib.hid fun x hx => by have := (hF x hx).1; omega
  clear hE hT hF
  by_cases h : 60 < n
  · have q : decide ((60 : Int) < (n : Int)) = true := decide_eq_true (by omega)
    have q2 : decide (60 < n) = true := decide_eq_true h
    go_enter Tryd.func5, Tryd.ntmps5
    go_wp2_with fail
    refine (awake_any w (HE.out.below (Below.refl w.heap.size w))).mono ?_
    rintro e w9 ⟨rfl, hb9⟩
    go_wp2_with fail
    go_ret
    exact ⟨rfl, by have HBB := (Below.refl w.heap.size w); (repeat (first | (with_reducible exact Below.refl _ _) | (with_reducible assumption) | (with_reducible apply bl_alloc) | (with_reducible apply bl_drewN) | (with_reducible apply bl_drew) | (with_reducible refine bl_set ?_ (by first | (simp; done) | (simp; omega)) _) | (with_reducible refine bl_call ?_ (by assumption))))⟩
  · have q : decide ((60 : Int) < (n : Int)) = false := decide_eq_false (by omega)
    have q2 : decide (60 < n) = false := decide_eq_false h
    go_enter Tryd.func5, Tryd.ntmps5
    go_wp2_with fail
    go_loop [3] (fun i => ∃ k : Nat, k ≤ n ∧ i = .int .i64 (k : Nat)) (fun i => n - (intOf i).toNat)
    case atStart => exact ⟨0, Nat.zero_le _, rfl⟩
    case round =>
      obtain ⟨k, hk, rfl⟩ := hrel
      have d1 : (0 : Int) ≤ (k : Int) := by omega
      rcases Nat.lt_or_ge k n with h | h
      · have d2 : (k : Int) < (n : Int) := by omega
        obtain ⟨b, o, hp, hb, hc⟩ := toks_at HT.out h
        subst hp
        have hkl : k < l.length := by rw [HL.out]; exact h
        obtain ⟨e1, e2, e3, e4⟩ := hc k hkl
        have ht := (HF.out _ (List.getElem_mem hkl)).1
        obtain ⟨X, hX⟩ : ∃ X, l[k] = X := ⟨_, rfl⟩
        rw [hX] at e1 e2 e3 e4 ht
        obtain ⟨K, T, N, L⟩ := X
        simp only at e1 e2 e3 e4 ht
        have hts : (T.size : Int) ≤ 140737488355328 := by omega
        clear hc hX
        by_cases g1 : 40 < T.size
        · have q3 : decide ((40 : Int) < (T.size : Int)) = true := decide_eq_true (by omega)
          go_wp2_with fail
          refine (awake_any w (HE.out.below (Below.refl w.heap.size w))).mono ?_
          rintro e w9 ⟨rfl, hb9⟩
          go_wp2_with fail
          go_ret
          exact ⟨rfl, by have HBB := (Below.refl w.heap.size w); (repeat (first | (with_reducible exact Below.refl _ _) | (with_reducible assumption) | (with_reducible apply bl_alloc) | (with_reducible apply bl_drewN) | (with_reducible apply bl_drew) | (with_reducible refine bl_set ?_ (by first | (simp; done) | (simp; omega)) _) | (with_reducible refine bl_call ?_ (by assumption))))⟩
        · have q3 : decide ((40 : Int) < (T.size : Int)) = false := decide_eq_false (by omega)
          by_cases g2 : 30000 < L
          · have q4 : decide ((30000 : Int) < L) = true := decide_eq_true g2
            go_wp2_with fail
            refine (awake_any w (HE.out.below (Below.refl w.heap.size w))).mono ?_
            rintro e w9 ⟨rfl, hb9⟩
            go_wp2_with fail
            go_ret
            exact ⟨rfl, by have HBB := (Below.refl w.heap.size w); (repeat (first | (with_reducible exact Below.refl _ _) | (with_reducible assumption) | (with_reducible apply bl_alloc) | (with_reducible apply bl_drewN) | (with_reducible apply bl_drew) | (with_reducible refine bl_set ?_ (by first | (simp; done) | (simp; omega)) _) | (with_reducible refine bl_call ?_ (by assumption))))⟩
          · have q4 : decide ((30000 : Int) < L) = false := decide_eq_false g2
            go_wp2_with fail
            go_round
            case rel => exact ⟨k + 1, by omega, by go_num⟩
            case measure => simp [intOf]; omega
      · obtain rfl : k = n := by omega
        have I1 := text_any (c := c) w HT.out HF.out HE.out
        have I2 := fun w1 (hb : Below w.heap.size w w1) => rtext_any (c := c) w1 (HT.out.on hb) HF.out
        have I3 := fun w1 (hb : Below w.heap.size w w1) => check_any (c := c) w1 (HT.out.on hb) HFF.out
        have I4 := fun w1 (hb : Below w.heap.size w w1) => rcheck_any (c := c) w1 (HT.out.on hb) HFF.out
        have I5 := fun w1 (hb : Below w.heap.size w w1) => lines_any (c := c) w1 (HT.out.on hb) HFF.out
        have I6 := fun w1 (hb : Below w.heap.size w w1) => rlines_any (c := c) w1 (HT.out.on hb) HFF.out
        unfold txtV at I1 I2
        obtain ⟨S, hS⟩ : ∃ S, txtS l = S := ⟨_, rfl⟩
        obtain ⟨E, hE⟩ : ∃ E, txtE l = E := ⟨_, rfl⟩
        obtain ⟨C, hC⟩ : ∃ C, chkL l = C := ⟨_, rfl⟩
        obtain ⟨N, hN⟩ : ∃ N, linL l = N := ⟨_, rfl⟩
        rw [hS, hE] at I1
        simp only [hS, hE, hC, hN] at I2 I3 I4 I5 I6
        have t1 : (S.toList == S.toList) = true := by simp
        clear hS hE hC hN
        go_wp2_with fail
        refine I1.mono ?_
        rintro e w1 ⟨rfl, hb1⟩
        have HB1 : Hid (Below w.heap.size w w1) := Lib.hid hb1
        clear hb1
        go_wp2_with fail
        refine (I2 w1 HB1.out).mono ?_
        rintro e w2 ⟨rfl, hb2⟩
        have HB2 : Hid (Below w.heap.size w w2) := Lib.hid (by have HBB := HB1.out; (repeat (first | (with_reducible exact Below.refl _ _) | (with_reducible assumption) | (with_reducible apply bl_alloc) | (with_reducible apply bl_drewN) | (with_reducible apply bl_drew) | (with_reducible refine bl_set ?_ (by first | (simp; done) | (simp; omega)) _) | (with_reducible refine bl_call ?_ (by assumption)))))
        clear hb2
        go_wp2_with fail
        refine (I3 w2 HB2.out).mono ?_
        rintro e w3 ⟨rfl, hb3⟩
        have HB3 : Hid (Below w.heap.size w w3) := Lib.hid (by have HBB := HB2.out; (repeat (first | (with_reducible exact Below.refl _ _) | (with_reducible assumption) | (with_reducible apply bl_alloc) | (with_reducible apply bl_drewN) | (with_reducible apply bl_drew) | (with_reducible refine bl_set ?_ (by first | (simp; done) | (simp; omega)) _) | (with_reducible refine bl_call ?_ (by assumption)))))
        clear hb3
        go_wp2_with fail
        refine (I4 w3 HB3.out).mono ?_
        rintro e w4 ⟨rfl, hb4⟩
        have HB4 : Hid (Below w.heap.size w w4) := Lib.hid (by have HBB := HB3.out; (repeat (first | (with_reducible exact Below.refl _ _) | (with_reducible assumption) | (with_reducible apply bl_alloc) | (with_reducible apply bl_drewN) | (with_reducible apply bl_drew) | (with_reducible refine bl_set ?_ (by first | (simp; done) | (simp; omega)) _) | (with_reducible refine bl_call ?_ (by assumption)))))
        clear hb4
        go_wp2_with fail
        refine (I5 w4 HB4.out).mono ?_
        rintro e w5 ⟨rfl, hb5⟩
        have HB5 : Hid (Below w.heap.size w w5) := Lib.hid (by have HBB := HB4.out; (repeat (first | (with_reducible exact Below.refl _ _) | (with_reducible assumption) | (with_reducible apply bl_alloc) | (with_reducible apply bl_drewN) | (with_reducible apply bl_drew) | (with_reducible refine bl_set ?_ (by first | (simp; done) | (simp; omega)) _) | (with_reducible refine bl_call ?_ (by assumption)))))
        clear hb5
        go_wp2_with fail
        refine (I6 w5 HB5.out).mono ?_
        rintro e w6 ⟨rfl, hb6⟩
        have HB6 : Hid (Below w.heap.size w w6) := Lib.hid (by have HBB := HB5.out; (repeat (first | (with_reducible exact Below.refl _ _) | (with_reducible assumption) | (with_reducible apply bl_alloc) | (with_reducible apply bl_drewN) | (with_reducible apply bl_drew) | (with_reducible refine bl_set ?_ (by first | (simp; done) | (simp; omega)) _) | (with_reducible refine bl_call ?_ (by assumption)))))
        clear hb6
        go_wp2_with fail
        refine (awake_any w6 (HE.out.below HB6.out)).mono ?_
        rintro e w9 ⟨rfl, hb9⟩
        go_wp2_with fail
        go_ret
        exact ⟨rfl, by have HBB := HB6.out; (repeat (first | (with_reducible exact Below.refl _ _) | (with_reducible assumption) | (with_reducible apply bl_alloc) | (with_reducible apply bl_drewN) | (with_reducible apply bl_drew) | (with_reducible refine bl_set ?_ (by first | (simp; done) | (simp; omega)) _) | (with_reducible refine bl_call ?_ (by assumption))))⟩
end Go.Proofs.YtilnojcbebchdaaDoor.Lx
