/-
  The law of uniqueness, walked.
-/
import Derived.Test.YtnfddeoddjmpkaaCLaw2
namespace Go.Proofs.Ytnfddeoddjmpkaa.Co
open Go.RowKit
set_option maxHeartbeats 4000000
/-- What Int tells of bytes: an error, or an integer whose encoding is there. -/
def IntIs (l : List UInt8) (n : Nat) (a b c : Int) : Prop := c ≠ 0 ∨ (c = 0 ∧ Fits a ∧ ∃ k : Nat, b = (k : Int) ∧ 1 ≤ k ∧ k ≤ n ∧ enc a = l.take k)
theorem int_is {l : List UInt8} {n : Nat} (hl : l.length = n) : IntIs l n (dec l 0 0).n ((dec l 0 0).k : Nat) ((dec l 0 0).e : Nat) := by
  rcases dec_cases l with h | h | ⟨v, k, h⟩
  · rw [h]; exact .inl (by decide)
  · rw [h]; exact .inl (by decide)
  · rw [h]
    obtain ⟨h1, h2, -, -, h5⟩ := dec_good0 h
    exact .inr ⟨rfl, intZ_bd h5, k, rfl, h1, by omega, (enc_of h).symm⟩
def TextIs (l : List UInt8) (n : Nat) (S : ByteArray) (b c : Int) : Prop := c ≠ 0 ∨ (c = 0 ∧ ∃ k : Nat, b = (k : Int) ∧ 1 ≤ k ∧ k ≤ n ∧ S.size ≤ n ∧ encT S.data.toList = l.take k)
theorem text_is {l : List UInt8} {n : Nat} {most : Int} (hl : l.length = n) : TextIs l n ⟨(decT l most).s.toArray⟩ ((decT l most).k : Nat) ((decT l most).e : Nat) := by
  by_cases e : (decT l most).e = 0
  · obtain ⟨h1, h2, h3⟩ := decT_was e
    refine .inr ⟨by rw [e]; rfl, _, rfl, h1, by omega, ?_, by simpa using h3⟩
    have h4 := congrArg List.length h3
    unfold encT at h4
    rw [List.length_append, List.length_take] at h4
    have : ByteArray.size ⟨(decT l most).s.toArray⟩ = (decT l most).s.length := by rw [← bytes_len]
    omega
  · exact .inl (by omega)
theorem sl_h (p : Option Addr) (n c k : Nat) (hk : k ≤ n) (hc : n ≤ c) (W : World) : (Instr.slice 22 (.slice p n c) none (some (.int .i64 (k : Int))) none).run Try.prog W = .ok (.slice p k c) W := by
  have ht' : Try.prog.underlying 22 = some (.slice (Try.prog.elem 22)) := by simp [Program.elem, Try.underlying22]
  have he : Try.prog.elem 22 = 5 := by simp [Program.elem, Try.underlying22]
  rw [run_slice_h W _ _ _ _ ht' .i64 _ (by omega) (by omega), he, u8_siz]
  cases p <;> simp [Result.andThen, sliced, Addr.add]
set_option maxRecDepth 100000 in
theorem unique_core (p : Option Addr) (n c : Nat) (l : List UInt8) (most : Int) (w : World) (hc : n ≤ c) (hb : Byt w p n l) (h3 : n ≤ 300) (a1 a2 a3 : Int) (S : ByteArray) (b2 b3 : Int) (T : IntsR)
    (I1 : ∀ p n k w, Byt w p n l → Calls Try.prog 18 #[.slice p n k] w (Gives (.tuple #[.int .i64 a1, .int .i64 a2, .int .i64 a3]) w))
    (I2 : ∀ p n k w, Byt w p n l → n ≤ k → Calls Try.prog 20 #[.slice p n k, .int .i64 most] w (Gives (.tuple #[.string S, .int .i64 b2, .int .i64 b3]) w))
    (I3 : ∀ p n k w, Byt w p n l → n ≤ k → Hid (n < 1000000) → Calls Try.prog 22 #[.slice p n k, .int .i64 most] w (ListOut T w))
    (X1 : IntIs l n a1 a2 a3) (X2 : TextIs l n S b2 b3) (hT : decI l most = T) : Calls Try.prog 6 #[.slice p n c, .int .i64 most] w (Gives (.bool true) w) := by
  have HF := Lib.hid (fewB_yes (n := n) (m := ByteArray.size ⟨#[]⟩) (k := 0) ⟨h3, by decide, by decide⟩)
  have HN := Lib.hid h3
  have J1 := Lib.hid I1
  have J2 := Lib.hid I2
  have J3 := Lib.hid I3
  have Y1 := Lib.hid X1
  have Y2 := Lib.hid X2
  have HT := Lib.hid hT
  have HB := Lib.hid hb
  clear I1 I2 I3 X1 X2 hT hb h3
  go_enter Try.func6, Try.ntmps6
  go_wp2_with fail
  refine (few_any p n c ⟨#[]⟩ none 0 0 _).mono ?_
  rintro e w0 ⟨rfl, rfl⟩
  rw [HF.out]
  clear HF
  go_wp2_with fail
  refine (J1.out _ _ _ _ HB.out).mono ?_
  rintro e w1 ⟨rfl, hb1⟩
  have HB1 := Lib.hid hb1
  clear hb1
  go_upto_region 4 with fail
  go_cut [45] (fun v wr => v = .bool false ∧ Below w1.heap.size w1 wr)
  case first =>
    rcases Y1.out with h | ⟨rfl, hf, k, rfl, g1, g2, g3⟩
    · have t1 : (a3 == 0) = false := beq_eq_false_iff_ne.2 h
      clear h
      go_quiet (fail)
      all_goals
        go_wp2_with fail
        go_meet
        exact ⟨rfl, by (repeat (first | (with_reducible exact Below.refl _ _) | (with_reducible assumption) | (exact And.left (by assumption)) | (with_reducible apply bl_bytes) | (with_reducible apply bl_alloc) | (with_reducible apply bl_drewN) | (with_reducible apply bl_drew) | (with_reducible refine bl_call ?_ (by assumption))))⟩
    · have t1 : ((0 : Int) == 0) = true := rfl
      have t2 : decide ((k : Int) < (1 : Int)) = false := by (first | exact decide_eq_true (by omega) | exact decide_eq_false (by omega))
      have t2' : decide (k < 1) = false := by (first | exact decide_eq_true (by omega) | exact decide_eq_false (by omega))
      have t3 : decide ((n : Int) < (k : Int)) = false := by (first | exact decide_eq_true (by omega) | exact decide_eq_false (by omega))
      have t3' : decide (n < k) = false := by (first | exact decide_eq_true (by omega) | exact decide_eq_false (by omega))
      have q1 := sl_h p n c k g2 hc
      obtain ⟨L1, hL1⟩ : ∃ L, enc a1 = L := ⟨_, rfl⟩
      obtain ⟨S1, hS1⟩ : ∃ S : ByteArray, (⟨L1.toArray⟩ : ByteArray) = S := ⟨_, rfl⟩
      have PI := Lib.hid fun w' => putint_any none 0 0 [] a1 w' byt_nil (Lib.hid (by omega)) (Nat.le_refl _) hf.1 hf.2
      rw [List.nil_append, hL1] at PI
      have hlen : L1.length ≤ 9223372036854775807 := by have := enc_len hf; rw [hL1] at this; omega
      have HLen := Lib.hid hlen
      have H1 := Lib.hid hS1
      have KS := Lib.hid fun (w' : World) (h : Below w1.heap.size w1 w') => And.intro h (conv_S (c := c) (S := S1) (((HB.out.on HB1.out).take g2).on h) (by rw [← g3, hL1]; exact hS1))
      clear g1 g2 g3 hL1 hS1 hf hlen
      go_region_held_law (fun w' => Below w1.heap.size w1 w' ∧ (convert 22 9 (.slice p k c)).run Try.prog w' = .ok (.string S1) w') ((refine KS.out _ ?_; (repeat (first | (with_reducible exact Below.refl _ _) | (with_reducible assumption) | (exact And.left (by assumption)) | (with_reducible apply bl_bytes) | (with_reducible apply bl_alloc) | (with_reducible apply bl_drewN) | (with_reducible apply bl_drew) | (with_reducible refine bl_call ?_ (by assumption))))))
        (first
          | (go_at_call 12; refine (PI.out _).mono ?_; rintro e w4 ⟨v4, rfl, ho4, hb4⟩; have q4 := own_S ho4 H1.out HLen.out))
      all_goals
        go_wp2_with fail
        go_meet
        exact ⟨rfl, by (repeat (first | (with_reducible exact Below.refl _ _) | (with_reducible assumption) | (exact And.left (by assumption)) | (with_reducible apply bl_bytes) | (with_reducible apply bl_alloc) | (with_reducible apply bl_drewN) | (with_reducible apply bl_drew) | (with_reducible refine bl_call ?_ (by assumption))))⟩
  case rest =>
    obtain ⟨rfl, hbc⟩ := hcut
    have HB2 := Lib.hid (bl_call HB1.out hbc)
    clear hbc HB1
    go_wp2_with fail
    refine (J2.out _ _ _ _ (HB.out.on HB2.out) hc).mono ?_
    rintro e w3 ⟨rfl, hb3⟩
    have HB3 := Lib.hid (bl_call HB2.out hb3)
    clear hb3 HB2
    go_upto_region 7 with fail
    go_cut [74] (fun v wr => v = .bool false ∧ Below w3.heap.size w3 wr)
    case first =>
      rcases Y2.out with h | ⟨rfl, k, rfl, g1, g2, g4, g3⟩
      · have t1 : (b3 == 0) = false := beq_eq_false_iff_ne.2 h
        clear h
        go_quiet (fail)
        all_goals
          go_wp2_with fail
          go_meet
          exact ⟨rfl, by (repeat (first | (with_reducible exact Below.refl _ _) | (with_reducible assumption) | (exact And.left (by assumption)) | (with_reducible apply bl_bytes) | (with_reducible apply bl_alloc) | (with_reducible apply bl_drewN) | (with_reducible apply bl_drew) | (with_reducible refine bl_call ?_ (by assumption))))⟩
      · have t1 : ((0 : Int) == 0) = true := rfl
        have h3 := HN.out
        have t2 : decide ((k : Int) < (1 : Int)) = false := by (first | exact decide_eq_true (by omega) | exact decide_eq_false (by omega))
        have t2' : decide (k < 1) = false := by (first | exact decide_eq_true (by omega) | exact decide_eq_false (by omega))
        have t3 : decide ((n : Int) < (k : Int)) = false := by (first | exact decide_eq_true (by omega) | exact decide_eq_false (by omega))
        have t3' : decide (n < k) = false := by (first | exact decide_eq_true (by omega) | exact decide_eq_false (by omega))
        have q1 := sl_h p n c k g2 hc
        obtain ⟨L1, hL1⟩ : ∃ L, encT S.data.toList = L := ⟨_, rfl⟩
        obtain ⟨S1, hS1⟩ : ∃ S : ByteArray, (⟨L1.toArray⟩ : ByteArray) = S := ⟨_, rfl⟩
        have PI := Lib.hid fun w' => puttext_any none 0 0 [] S w' byt_nil (Lib.hid (by omega)) (Nat.le_refl _)
        rw [List.nil_append, hL1] at PI
        have hlen : L1.length ≤ 9223372036854775807 := by rw [hL1] at g3; rw [g3, List.length_take]; omega
        have HLen := Lib.hid hlen
        have H1 := Lib.hid hS1
        have KS := Lib.hid fun (w' : World) (h : Below w3.heap.size w3 w') => And.intro h (conv_S (c := c) (S := S1) (((HB.out.on HB3.out).take g2).on h) (by rw [← g3, hL1]; exact hS1))
        clear g1 g2 g3 g4 hL1 hS1 hlen h3
        go_region_held_law (fun w' => Below w3.heap.size w3 w' ∧ (convert 22 9 (.slice p k c)).run Try.prog w' = .ok (.string S1) w') ((refine KS.out _ ?_; (repeat (first | (with_reducible exact Below.refl _ _) | (with_reducible assumption) | (exact And.left (by assumption)) | (with_reducible apply bl_bytes) | (with_reducible apply bl_alloc) | (with_reducible apply bl_drewN) | (with_reducible apply bl_drew) | (with_reducible refine bl_call ?_ (by assumption))))))
          (first
            | (go_at_call 13; refine (PI.out _).mono ?_; rintro e w4 ⟨v4, rfl, ho4, hb4⟩; have q4 := own_S ho4 H1.out HLen.out))
        all_goals
          go_wp2_with fail
          go_meet
          exact ⟨rfl, by (repeat (first | (with_reducible exact Below.refl _ _) | (with_reducible assumption) | (exact And.left (by assumption)) | (with_reducible apply bl_bytes) | (with_reducible apply bl_alloc) | (with_reducible apply bl_drewN) | (with_reducible apply bl_drew) | (with_reducible refine bl_call ?_ (by assumption))))⟩
    case rest =>
      obtain ⟨rfl, hbc⟩ := hcut
      have HB4 := Lib.hid (bl_call HB3.out hbc)
      clear hbc HB3
      go_wp2_with fail
      refine (J3.out _ _ _ _ (HB.out.on HB4.out) hc (Lib.hid (by have := HN.out; omega))).mono ?_
      rintro e w5 ⟨v5, rfl, ho5, hb5⟩
      have HB5 := Lib.hid (bl_call HB4.out hb5)
      have HO5 := Lib.hid ho5
      clear hb5 HB4 ho5
      by_cases he : T.e = 0
      · obtain ⟨g1, g2, g3, hf, g5⟩ : 1 ≤ T.k ∧ T.k ≤ n ∧ encI T.l = l.take T.k ∧ (∀ x ∈ T.l, Fits x) ∧ T.l.length ≤ n := by
          have := decI_was (l := l) (most := most) (by rw [HT.out]; exact he)
          rw [HT.out] at this
          have hl := HB.out.1
          exact ⟨this.1, by omega, this.2.2.1, this.2.2.2.1, by omega⟩
        have h3 := HN.out
        obtain ⟨q5, d5, rfl, -, hq5⟩ := ints_own HO5.out (by omega)
        obtain ⟨k, hk⟩ : ∃ k, T.k = k := ⟨_, rfl⟩
        rw [hk] at g1 g2 g3 ⊢
        rw [he]
        have t1 : (((0 : Nat) : Int) != 0) = false := rfl
        have t2 : decide ((1 : Int) ≤ (k : Int)) = true := decide_eq_true (by omega)
        have t2' : decide (1 ≤ k) = true := decide_eq_true g1
        have t3 : decide ((k : Int) ≤ (n : Int)) = true := decide_eq_true (by omega)
        have t3' : decide (k ≤ n) = true := decide_eq_true g2
        have q1 := sl_h p n c k g2 hc
        obtain ⟨L1, hL1⟩ : ∃ L, encI T.l = L := ⟨_, rfl⟩
        obtain ⟨S1, hS1⟩ : ∃ S : ByteArray, (⟨L1.toArray⟩ : ByteArray) = S := ⟨_, rfl⟩
        have PI := Lib.hid fun w' (hi : Ints w' q5 T.l.length T.l) => putints_any none 0 0 [] q5 T.l.length d5 T.l w' byt_nil hi (Lib.hid (by omega)) (Nat.le_refl _) (Lib.hid hf)
        rw [List.nil_append, hL1] at PI
        have hlen : L1.length ≤ 9223372036854775807 := by rw [hL1] at g3; rw [g3, List.length_take]; omega
        have HLen := Lib.hid hlen
        have H1 := Lib.hid hS1
        have HQ5 := Lib.hid hq5
        have KS := Lib.hid fun (w' : World) (h : Below w5.heap.size w5 w') => And.intro h (conv_S (c := c) (S := S1) (((HB.out.on HB5.out).take g2).on h) (by rw [← g3, hL1]; exact hS1))
        obtain ⟨N5, hN5⟩ : ∃ N, T.l.length = N := ⟨_, rfl⟩
        rw [hN5] at PI HQ5 ⊢
        clear g1 g2 g3 g5 hL1 hS1 hlen h3 hf hq5 hk he HO5 hN5
        go_wp2_with fail
        go_region_held_law (fun w' => Below w5.heap.size w5 w' ∧ (convert 22 9 (.slice p k c)).run Try.prog w' = .ok (.string S1) w') ((refine KS.out _ ?_; (repeat (first | (with_reducible exact Below.refl _ _) | (with_reducible assumption) | (exact And.left (by assumption)) | (with_reducible apply bl_bytes) | (with_reducible apply bl_alloc) | (with_reducible apply bl_drewN) | (with_reducible apply bl_drew) | (with_reducible refine bl_call ?_ (by assumption))))))
          (first
            | (go_at_call 14; refine (PI.out _ (HQ5.out.on (by (repeat (first | (with_reducible exact Below.refl _ _) | (with_reducible assumption) | (exact And.left (by assumption)) | (with_reducible apply bl_bytes) | (with_reducible apply bl_alloc) | (with_reducible apply bl_drewN) | (with_reducible apply bl_drew) | (with_reducible refine bl_call ?_ (by assumption))))))).mono ?_; rintro e w6 ⟨v6, rfl, ho6, hb6⟩; have q6 := own_S ho6 H1.out HLen.out)
            | (go_at_call 11; refine (awake_any _).mono ?_; rintro e w7 ⟨rfl, hb7⟩))
        all_goals
          go_wp2_with fail
          go_ret
          exact ⟨rfl, by have HBB := HB5.out; (repeat (first | (with_reducible exact Below.refl _ _) | (with_reducible assumption) | (exact And.left (by assumption)) | (with_reducible apply bl_bytes) | (with_reducible apply bl_alloc) | (with_reducible apply bl_drewN) | (with_reducible apply bl_drew) | (with_reducible refine bl_call ?_ (by assumption))))⟩
      · have t1 : ((T.e : Int) != 0) = true := bne_iff_ne.2 (by omega)
        have t1' : (T.e != 0) = true := bne_iff_ne.2 he
        clear he HO5
        go_wp2_with fail
        refine wp_region_any (by kernel_rfl) ?_
        change wpAny _ _ _ _ _ _ _ (World.drew _)
        refine wpAny_take (i := 0) (v := ?_) rfl (by kernel_rfl) (by kernel_rfl) (by kernel_rfl) (fun _ _ _ h => h) (Or.inl ⟨by rfl, ?_⟩) ?_
        rotate_left 1
        · intro w'
          first | (go_simp; done) | (go_simp; with_reducible rfl)
        refine wpAny_take (i := 1) (v := ?_) rfl (by kernel_rfl) (by kernel_rfl) (by kernel_rfl) (fun _ _ _ h => h) (Or.inl ⟨by rfl, ?_⟩) ?_
        rotate_left 1
        · intro w'
          first | (go_simp; done) | (go_simp; with_reducible rfl)
        refine wpAny_take (i := 2) (v := ?_) rfl (by kernel_rfl) (by kernel_rfl) (by kernel_rfl) (fun _ _ _ h => h) (Or.inl ⟨by rfl, ?_⟩) ?_
        rotate_left 1
        · intro w'
          first | (go_simp; done) | (go_simp; with_reducible rfl)
        refine wpAny_take (i := 3) (v := undef) rfl (by kernel_rfl) (by kernel_rfl) (by kernel_rfl) (fun _ _ _ h => h) (Or.inr ⟨by kernel_rfl, rfl⟩) ?_
        refine wpAny_take (i := 4) (v := undef) rfl (by kernel_rfl) (by kernel_rfl) (by kernel_rfl) (fun _ _ _ h => h) (Or.inr ⟨by kernel_rfl, rfl⟩) ?_
        refine wpAny_take (i := 5) (v := undef) rfl (by kernel_rfl) (by kernel_rfl) (by kernel_rfl) (fun _ _ _ h => h) (Or.inr ⟨by kernel_rfl, rfl⟩) ?_
        refine wpAny_take (i := 6) (v := undef) rfl (by kernel_rfl) (by kernel_rfl) (by kernel_rfl) (fun _ _ _ h => h) (Or.inr ⟨by kernel_rfl, rfl⟩) ?_
        refine wpAny_take (i := 7) (v := undef) rfl (by kernel_rfl) (by kernel_rfl) (by kernel_rfl) (fun _ _ _ h => h) (Or.inr ⟨by kernel_rfl, rfl⟩) ?_
        refine wpAny_take (i := 8) (v := undef) rfl (by kernel_rfl) (by kernel_rfl) (by kernel_rfl) (fun _ _ _ h => h) (Or.inr ⟨by kernel_rfl, rfl⟩) ?_
        refine wpAny_take (i := 9) (v := undef) rfl (by kernel_rfl) (by kernel_rfl) (by kernel_rfl) (fun _ _ _ h => h) (Or.inr ⟨by kernel_rfl, rfl⟩) ?_
        refine wpAny_take (i := 10) (v := undef) rfl (by kernel_rfl) (by kernel_rfl) (by kernel_rfl) (fun _ _ _ h => h) (Or.inr ⟨by kernel_rfl, rfl⟩) ?_
        refine wpAny_take (i := 11) (v := undef) rfl (by kernel_rfl) (by kernel_rfl) (by kernel_rfl) (fun _ _ _ h => h) (Or.inr ⟨by kernel_rfl, rfl⟩) ?_
        refine wpAny_take (i := 12) (v := undef) rfl (by kernel_rfl) (by kernel_rfl) (by kernel_rfl) (fun _ _ _ h => h) (Or.inr ⟨by kernel_rfl, rfl⟩) ?_
        refine wpAny_take (i := 13) (v := undef) rfl (by kernel_rfl) (by kernel_rfl) (by kernel_rfl) (fun _ _ _ h => h) (Or.inr ⟨by kernel_rfl, rfl⟩) ?_
        refine wpAny_take (i := 14) (v := undef) rfl (by kernel_rfl) (by kernel_rfl) (by kernel_rfl) (fun _ _ _ h => h) (Or.inr ⟨by kernel_rfl, rfl⟩) ?_
        refine wpAny_take (i := 15) (v := undef) rfl (by kernel_rfl) (by kernel_rfl) (by kernel_rfl) (fun _ _ _ h => h) (Or.inr ⟨by kernel_rfl, rfl⟩) ?_
        refine wpAny_take (i := 16) (v := undef) rfl (by kernel_rfl) (by kernel_rfl) (by kernel_rfl) (fun _ _ _ h => h) (Or.inr ⟨by kernel_rfl, rfl⟩) ?_
        refine wpAny_take (i := 17) (v := undef) rfl (by kernel_rfl) (by kernel_rfl) (by kernel_rfl) (fun _ _ _ h => h) (Or.inr ⟨by kernel_rfl, rfl⟩) ?_
        refine wpAny_take (i := 18) (v := undef) rfl (by kernel_rfl) (by kernel_rfl) (by kernel_rfl) (fun _ _ _ h => h) (Or.inr ⟨by kernel_rfl, rfl⟩) ?_
        refine wpAny_take (i := 19) (v := undef) rfl (by kernel_rfl) (by kernel_rfl) (by kernel_rfl) (fun _ _ _ h => h) (Or.inr ⟨by kernel_rfl, rfl⟩) ?_
        refine wpAny_take (i := 20) (v := undef) rfl (by kernel_rfl) (by kernel_rfl) (by kernel_rfl) (fun _ _ _ h => h) (Or.inr ⟨by kernel_rfl, rfl⟩) ?_
        refine wpAny_take (i := 21) (v := ?_) rfl (by kernel_rfl) (by kernel_rfl) (by kernel_rfl) (fun _ _ _ h => h) (Or.inl ⟨by rfl, ?_⟩) ?_
        rotate_left 1
        · intro w'
          first | (go_simp; done) | (go_simp; with_reducible rfl)
        refine wpAny_take (i := 22) (v := ?_) rfl (by kernel_rfl) (by kernel_rfl) (by kernel_rfl) (fun _ _ _ h => h) (Or.inl ⟨by rfl, ?_⟩) ?_
        rotate_left 1
        · intro w'
          first | (go_simp; done) | (go_simp; with_reducible rfl)
        refine wpAny_ready (rs := [23]) (by kernel_rfl) (by simp) ?_
        refine AllReady.cons rfl (fun K hK => ?_) ?_
        · go_simp
          go_wp2_with ((go_at_call 11; refine (awake_any _).mono ?_; rintro e w7 ⟨rfl, hb7⟩))
          refine wpAny_take (i := 24) (v := ?_) rfl (by kernel_rfl) (by kernel_rfl) (by kernel_rfl) (fun _ _ _ h => h) (Or.inl ⟨by rfl, ?_⟩) ?_
          rotate_left 1
          · intro w'
            first | (go_simp; done) | (go_simp; with_reducible rfl)
          refine wpAny_take (i := 25) (v := ?_) rfl (by kernel_rfl) (by kernel_rfl) (by kernel_rfl) (fun _ _ _ h => h) (Or.inl ⟨by rfl, ?_⟩) ?_
          rotate_left 1
          · intro w'
            first | (go_simp; done) | (go_simp; with_reducible rfl)
          refine wpAny_done (by kernel_rfl) ?_ _
          go_wp2_with fail
          go_ret
          exact ⟨rfl, by have HBB := HB5.out; (repeat (first | (with_reducible exact Below.refl _ _) | (with_reducible assumption) | (exact And.left (by assumption)) | (with_reducible apply bl_bytes) | (with_reducible apply bl_alloc) | (with_reducible apply bl_drewN) | (with_reducible apply bl_drew) | (with_reducible refine bl_call ?_ (by assumption))))⟩
        · exact AllReady.nil
theorem codecUnique_walk (p : Option Addr) (n c : Nat) (l : List UInt8) (most : Int) (w : World) (hc : n ≤ c) (hb : Byt w p n l) (_ : -9223372036854775808 ≤ most) (_ : most ≤ 9223372036854775807) : Calls Try.prog 6 #[.slice p n c, .int .i64 most] w (Gives (.bool true) w) := by
  by_cases h3 : n ≤ 300
  · exact unique_core p n c l most w hc hb h3 _ _ _ _ _ _ _ (fun p n k w h => int_any p n k l _ w h (Lib.hid rfl)) (fun p n k w h hk => text_any p n k l most w h hk) (fun p n k w h hk hs => ints_any p n k l most w h hk hs) (int_is hb.1) (text_is hb.1) rfl
  · have HF := Lib.hid (fewB_no (n := n) (m := ByteArray.size ⟨#[]⟩) (k := 0) (by omega))
    clear h3 hb
    go_enter Try.func6, Try.ntmps6
    go_wp2_with fail
    refine (few_any p n c ⟨#[]⟩ none 0 0 _).mono ?_
    rintro e w0 ⟨rfl, rfl⟩
    rw [HF.out]
    go_wp2_with fail
    refine (awake_any _).mono ?_
    rintro e w8 ⟨rfl, hb8⟩
    go_wp2_with fail
    go_ret
    exact ⟨rfl, hb8⟩
end Go.Proofs.Ytnfddeoddjmpkaa.Co
