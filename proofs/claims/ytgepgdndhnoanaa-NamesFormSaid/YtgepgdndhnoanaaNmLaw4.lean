/-
  The law of the form of names, walked.
-/
import Derived.Test.YtgepgdndhnoanaaNmAwake
import Derived.Test.YtgepgdndhnoanaaNmFrame
namespace Go.Proofs.Ytgepgdndhnoanaa.Na
open Go.RowKit
set_option maxHeartbeats 4000000
theorem conv_byt {w : World} {p : Addr} {n c : Nat} {l : List UInt8} (h : Byt w (some p) n l) : (convert 26 9 (.slice (some p) n c)).run Try.prog w = .ok (.string (mkS l)) w := by
  have hl := h.1
  subst hl
  refine run_convert_bytes_back w _ _ 5 p c l Try.underlying26 Try.underlying5 Try.underlying9 fun j hj => ?_
  rcases h.2.2 with h0 | ⟨b, o, he, -, hc⟩
  · omega
  · cases he
    rw [add_off]
    exact hc.out j hj
theorem byt_one {w : World} {ch : UInt8} : Byt (w.alloc (.cells #[.int .u8 (ch.toNat : Int)] 5)) (some ⟨w.heap.size, 0, none⟩) 1 [ch] := by
  refine ⟨rfl, by omega, .inr ⟨_, _, rfl, by simp, Lib.hid fun i hi => ?_⟩⟩
  rw [World.cell?_alloc_mark, Nat.zero_add]
  obtain rfl : i = 0 := by simp at hi; exact hi
  rfl
/-- A valid name with a byte more. -/
theorem longer {s : ByteArray} {ch : UInt8} (h : chk (bs s) = 0) : nameB (bs (s ++ mkS [ch])) = (goodC ch && (decide ((s ++ mkS [ch]).size ≤ 24) && !isKw (bs (s ++ mkS [ch])))) := by
  obtain ⟨h1, h2, h3, h4, h5⟩ := name_iff.1 (chk_ok.1 h)
  have e : bs (s ++ mkS [ch]) = bs s ++ [ch] := bs_app _ _
  have e3 : (bs s ++ [ch]).headD 0 = (bs s).headD 0 := by
    cases hs : bs s with
    | nil => rw [hs] at h1; simp at h1
    | cons c t => rfl
  unfold nameB
  rw [show (s ++ mkS [ch]).size = (bs (s ++ mkS [ch])).length from (bs_len _).symm, e, e3, h3, List.all_append, h5]
  have e4 : decide (1 ≤ (bs s ++ [ch]).length) = true := decide_eq_true (by rw [List.length_append]; omega)
  rw [e4]
  simp only [List.all_cons, List.all_nil, Bool.and_true, Bool.true_and]
  cases goodC ch <;> simp
theorem form_head {s : ByteArray} (h : chk (bs s) = 0) : ∃ h0 : 0 < s.size, s.size ≤ 24 ∧ (97 : Int) ≤ ((s[0]).toNat : Int) ∧ ((s[0]).toNat : Int) ≤ (122 : Int) ∧ isKw (bs s) = false := by
  obtain ⟨h1, h2, h3, h4, h5⟩ := name_iff.1 (chk_ok.1 h)
  rw [bs_len] at h1 h2
  refine ⟨h1, h2, ?_⟩
  rw [head_at (by rw [bs_len]; exact h1)] at h3
  have h3' : ltrI ((s[0]).toNat : Int) = true := h3
  unfold ltrI at h3'
  simp only [Bool.and_eq_true, decide_eq_true_eq] at h3'
  exact ⟨h3'.1, h3'.2, h4⟩
theorem form_at {s : ByteArray} (h : chk (bs s) = 0) {k : Nat} (hk : k < s.size) : goodI ((s[k]).toNat : Int) = true := by
  obtain ⟨h1, h2, h3, h4, h5⟩ := name_iff.1 (chk_ok.1 h)
  exact List.all_eq_true.1 h5 _ (List.getElem_mem (by rw [bs_len]; exact hk))
theorem good_ways {x : Int} (h : goodI x = true) : (97 ≤ x ∧ x ≤ 122) ∨ (48 ≤ x ∧ x ≤ 57) ∨ x = 95 := by
  unfold goodI ltrI digI at h
  simp only [Bool.or_eq_true, Bool.and_eq_true, decide_eq_true_eq] at h
  omega
theorem long_ways {L : ByteArray} {g : Bool} (h : nameB (bs L) = (g && (decide (L.size ≤ 24) && !isKw (bs L)))) :
    (chk (bs L) = 0 ∧ g = true ∧ L.size ≤ 24 ∧ isKw (bs L) = false) ∨ (chk (bs L) = 3 ∧ g = true ∧ L.size ≤ 24 ∧ isKw (bs L) = true) ∨ (chk (bs L) = 3 ∧ g = true ∧ 24 < L.size) ∨ (chk (bs L) = 3 ∧ g = false) := by
  cases g with
  | false => exact .inr (.inr (.inr ⟨chk_no (by rw [h]; rfl), rfl⟩))
  | true =>
    by_cases h1 : L.size ≤ 24
    · rw [decide_eq_true h1] at h
      cases hk : isKw (bs L) with
      | false => rw [hk] at h; exact .inl ⟨chk_yes h, rfl, h1, rfl⟩
      | true => rw [hk] at h; exact .inr (.inl ⟨chk_no h, rfl, h1, rfl⟩)
    · rw [decide_eq_false h1] at h
      exact .inr (.inr (.inl ⟨chk_no h, rfl, by omega⟩))
theorem no_way {x : Int} {g h : Bool} (e : g = goodI x) (a : goodI x = h) (b : g = !h) : False := by
  rw [e, a] at b
  revert b
  cases h <;> decide
theorem byte_ways (x : Int) : (97 ≤ x ∧ x ≤ 122 ∧ goodI x = true) ∨ (x < 97 ∧ 48 ≤ x ∧ x ≤ 57 ∧ goodI x = true) ∨ (x = 95 ∧ goodI x = true) ∨ (x < 48 ∧ goodI x = false) ∨ (57 < x ∧ x < 97 ∧ ¬ x = 95 ∧ goodI x = false) ∨ (122 < x ∧ goodI x = false) := by
  unfold goodI ltrI digI
  simp only [Bool.or_eq_true, Bool.and_eq_true, decide_eq_true_eq, Bool.or_eq_false_iff, Bool.and_eq_false_iff, decide_eq_false_iff_not]
  omega
set_option maxRecDepth 100000 in
theorem namesForm_walk (s : ByteArray) (ch : UInt8) (w : World) (hs : s.size ≤ 9223372036854775807) : Calls Try.prog 4 #[.string s, .int .u8 (ch.toNat : Int)] w (Gives (.bool true) w) := by
  rcases chk_cases (bs s) with h | h
  · obtain ⟨h0, h1, h2, h3, h4⟩ := form_head h
    have HF := Lib.hid fun k hk => form_at (k := k) h hk
    have HL := Lib.hid (longer (ch := ch) h)
    have c0 : (0 : Int) < (s.size : Int) := by omega
    have c1 : decide ((s.size : Int) < 1) = false := decide_eq_false (by omega)
    have c2 : decide (24 < (s.size : Int)) = false := decide_eq_false (by omega)
    have c3 : decide (((s[0]).toNat : Int) < (97 : Int)) = false := decide_eq_false (by omega)
    have c4 : decide ((122 : Int) < ((s[0]).toNat : Int)) = false := decide_eq_false (by omega)
    have h1' : (s.size : Int) ≤ 24 := by omega
    go_enter Try.func4, Try.ntmps4
    go_wp2_with fail
    refine (check_at h hs w).mono ?_
    rintro e w1 ⟨rfl, hb1⟩
    go_wp2_with fail
    refine (keyword_at h4 w1).mono ?_
    rintro e w1 ⟨rfl, rfl⟩
    go_wp2_with fail
    go_loop [6] (fun i => ∃ k : Nat, k ≤ s.size ∧ i = .int .i64 (k : Nat)) (fun i => s.size - (intOf i).toNat)
    case atStart => exact ⟨0, Nat.zero_le _, rfl⟩
    case round =>
      obtain ⟨k, hk, rfl⟩ := hrel
      have d1 : (0 : Int) ≤ (k : Int) := by omega
      rcases Nat.lt_or_ge k s.size with h | h
      · have d2 : (k : Int) < (s.size : Int) := by omega
        rcases good_ways (HF.out k h) with ⟨g1, g2⟩ | ⟨g1, g2⟩ | g1
        · have e1 : decide (((s[k]).toNat : Int) < (97 : Int)) = false := decide_eq_false (by omega)
          have e2 : decide ((122 : Int) < ((s[k]).toNat : Int)) = false := decide_eq_false (by omega)
          go_wp2_with fail
          go_round
          case rel => exact ⟨k + 1, by omega, by go_num⟩
          case measure => simp [intOf]; omega
        · have e1 : decide (((s[k]).toNat : Int) < (97 : Int)) = true := decide_eq_true (by omega)
          have e2 : decide (((s[k]).toNat : Int) < (48 : Int)) = false := decide_eq_false (by omega)
          have e3 : decide ((57 : Int) < ((s[k]).toNat : Int)) = false := decide_eq_false (by omega)
          go_wp2_with fail
          go_round
          case rel => exact ⟨k + 1, by omega, by go_num⟩
          case measure => simp [intOf]; omega
        · go_wp2_with fail
          go_round
          case rel => exact ⟨k + 1, by omega, by go_num⟩
          case measure => simp [intOf]; omega
      · have q : decide ((k : Int) < (s.size : Int)) = false := decide_eq_false (by omega)
        have qc := conv_byt (c := 1) (byt_one (w := w1) (ch := ch))
        obtain ⟨E, hE⟩ : ∃ E, mkS [ch] = E := ⟨_, rfl⟩
        have hE1 : E.size = 1 := by rw [← hE]; rfl
        have HX : Hid (goodC ch = goodI (ch.toNat : Int)) := Lib.hid rfl
        have hx0 : (0 : Int) ≤ (ch.toNat : Int) := by omega
        have hx1 : (ch.toNat : Int) < 256 := by have := ch.toNat_lt; omega
        obtain ⟨x, hx⟩ : ∃ x : Int, (ch.toNat : Int) = x := ⟨_, rfl⟩
        rw [hx] at qc HX hx0 hx1
        rw [hx]
        rw [hE] at qc HL
        obtain ⟨L, hL⟩ : ∃ L, s ++ E = L := ⟨_, rfl⟩
        have hLz : L.size = s.size + E.size := by rw [← hL, ByteArray.size_append]
        have hLs : L.size ≤ 9223372036854775807 := by omega
        rw [hL] at HL
        have hw := long_ways HL.out
        clear hE hx HL HF
        rcases byte_ways x with ⟨g1, g2, g3⟩ | ⟨g0, g1, g2, g3⟩ | ⟨rfl, g3⟩ | ⟨g1, g3⟩ | ⟨g0, g1, g2, g3⟩ | ⟨g1, g3⟩
        · rcases hw with ⟨hC, -, hz, hK⟩ | ⟨hC, -, hz, hK⟩ | ⟨hC, -, hz⟩ | ⟨-, hg⟩
          · have z1 : decide ((L.size : Int) ≤ 24) = true := decide_eq_true (by omega)
            have z2 : decide ((s.size : Int) + 1 ≤ 24) = true := decide_eq_true (by omega)
            clear HX g3 hz
            go_wp2_with fail
            refine (check_at hC hLs _).mono ?_
            rintro e w2 ⟨rfl, hb2⟩
            have HW2 : Hid (Below w.heap.size w w2) := Lib.hid (by (repeat (first | (with_reducible exact Below.refl _ _) | (with_reducible assumption) | (with_reducible apply bl_alloc) | (with_reducible apply bl_drewN) | (with_reducible apply bl_drew) | (with_reducible refine bl_set ?_ (by first | (simp; done) | (simp; omega)) _) | (with_reducible refine bl_call ?_ (by assumption)))))
            clear hb2
            go_wp2_with fail
            refine (keyword_at hK w2).mono ?_
            rintro e w2 ⟨rfl, rfl⟩
            go_wp2_with fail
            refine (awake_any w2).mono ?_
            rintro e w3 ⟨rfl, hb3⟩
            go_wp2_with fail
            go_ret
            exact ⟨rfl, by have HBB := HW2.out; (repeat (first | (with_reducible exact Below.refl _ _) | (with_reducible assumption) | (with_reducible apply bl_alloc) | (with_reducible apply bl_drewN) | (with_reducible apply bl_drew) | (with_reducible refine bl_set ?_ (by first | (simp; done) | (simp; omega)) _) | (with_reducible refine bl_call ?_ (by assumption))))⟩
          · have z1 : decide ((L.size : Int) ≤ 24) = true := decide_eq_true (by omega)
            have z2 : decide ((s.size : Int) + 1 ≤ 24) = true := decide_eq_true (by omega)
            clear HX g3 hz
            go_wp2_with fail
            refine (check_at hC hLs _).mono ?_
            rintro e w2 ⟨rfl, hb2⟩
            have HW2 : Hid (Below w.heap.size w w2) := Lib.hid (by (repeat (first | (with_reducible exact Below.refl _ _) | (with_reducible assumption) | (with_reducible apply bl_alloc) | (with_reducible apply bl_drewN) | (with_reducible apply bl_drew) | (with_reducible refine bl_set ?_ (by first | (simp; done) | (simp; omega)) _) | (with_reducible refine bl_call ?_ (by assumption)))))
            clear hb2
            go_wp2_with fail
            refine (keyword_at hK w2).mono ?_
            rintro e w2 ⟨rfl, rfl⟩
            go_wp2_with fail
            refine (awake_any w2).mono ?_
            rintro e w3 ⟨rfl, hb3⟩
            go_wp2_with fail
            go_ret
            exact ⟨rfl, by have HBB := HW2.out; (repeat (first | (with_reducible exact Below.refl _ _) | (with_reducible assumption) | (with_reducible apply bl_alloc) | (with_reducible apply bl_drewN) | (with_reducible apply bl_drew) | (with_reducible refine bl_set ?_ (by first | (simp; done) | (simp; omega)) _) | (with_reducible refine bl_call ?_ (by assumption))))⟩
          · have z1 : decide ((L.size : Int) ≤ 24) = false := decide_eq_false (by omega)
            have z2 : decide ((s.size : Int) + 1 ≤ 24) = false := decide_eq_false (by omega)
            clear HX g3 hz
            go_wp2_with fail
            refine (check_at hC hLs _).mono ?_
            rintro e w2 ⟨rfl, hb2⟩
            have HW2 : Hid (Below w.heap.size w w2) := Lib.hid (by (repeat (first | (with_reducible exact Below.refl _ _) | (with_reducible assumption) | (with_reducible apply bl_alloc) | (with_reducible apply bl_drewN) | (with_reducible apply bl_drew) | (with_reducible refine bl_set ?_ (by first | (simp; done) | (simp; omega)) _) | (with_reducible refine bl_call ?_ (by assumption)))))
            clear hb2
            go_wp2_with fail
            refine (awake_any w2).mono ?_
            rintro e w3 ⟨rfl, hb3⟩
            go_wp2_with fail
            go_ret
            exact ⟨rfl, by have HBB := HW2.out; (repeat (first | (with_reducible exact Below.refl _ _) | (with_reducible assumption) | (with_reducible apply bl_alloc) | (with_reducible apply bl_drewN) | (with_reducible apply bl_drew) | (with_reducible refine bl_set ?_ (by first | (simp; done) | (simp; omega)) _) | (with_reducible refine bl_call ?_ (by assumption))))⟩
          · exact (no_way HX.out g3 hg).elim
        · rcases hw with ⟨hC, -, hz, hK⟩ | ⟨hC, -, hz, hK⟩ | ⟨hC, -, hz⟩ | ⟨-, hg⟩
          · have z1 : decide ((L.size : Int) ≤ 24) = true := decide_eq_true (by omega)
            have z2 : decide ((s.size : Int) + 1 ≤ 24) = true := decide_eq_true (by omega)
            clear HX g3 hz
            go_wp2_with fail
            refine (check_at hC hLs _).mono ?_
            rintro e w2 ⟨rfl, hb2⟩
            have HW2 : Hid (Below w.heap.size w w2) := Lib.hid (by (repeat (first | (with_reducible exact Below.refl _ _) | (with_reducible assumption) | (with_reducible apply bl_alloc) | (with_reducible apply bl_drewN) | (with_reducible apply bl_drew) | (with_reducible refine bl_set ?_ (by first | (simp; done) | (simp; omega)) _) | (with_reducible refine bl_call ?_ (by assumption)))))
            clear hb2
            go_wp2_with fail
            refine (keyword_at hK w2).mono ?_
            rintro e w2 ⟨rfl, rfl⟩
            go_wp2_with fail
            refine (awake_any w2).mono ?_
            rintro e w3 ⟨rfl, hb3⟩
            go_wp2_with fail
            go_ret
            exact ⟨rfl, by have HBB := HW2.out; (repeat (first | (with_reducible exact Below.refl _ _) | (with_reducible assumption) | (with_reducible apply bl_alloc) | (with_reducible apply bl_drewN) | (with_reducible apply bl_drew) | (with_reducible refine bl_set ?_ (by first | (simp; done) | (simp; omega)) _) | (with_reducible refine bl_call ?_ (by assumption))))⟩
          · have z1 : decide ((L.size : Int) ≤ 24) = true := decide_eq_true (by omega)
            have z2 : decide ((s.size : Int) + 1 ≤ 24) = true := decide_eq_true (by omega)
            clear HX g3 hz
            go_wp2_with fail
            refine (check_at hC hLs _).mono ?_
            rintro e w2 ⟨rfl, hb2⟩
            have HW2 : Hid (Below w.heap.size w w2) := Lib.hid (by (repeat (first | (with_reducible exact Below.refl _ _) | (with_reducible assumption) | (with_reducible apply bl_alloc) | (with_reducible apply bl_drewN) | (with_reducible apply bl_drew) | (with_reducible refine bl_set ?_ (by first | (simp; done) | (simp; omega)) _) | (with_reducible refine bl_call ?_ (by assumption)))))
            clear hb2
            go_wp2_with fail
            refine (keyword_at hK w2).mono ?_
            rintro e w2 ⟨rfl, rfl⟩
            go_wp2_with fail
            refine (awake_any w2).mono ?_
            rintro e w3 ⟨rfl, hb3⟩
            go_wp2_with fail
            go_ret
            exact ⟨rfl, by have HBB := HW2.out; (repeat (first | (with_reducible exact Below.refl _ _) | (with_reducible assumption) | (with_reducible apply bl_alloc) | (with_reducible apply bl_drewN) | (with_reducible apply bl_drew) | (with_reducible refine bl_set ?_ (by first | (simp; done) | (simp; omega)) _) | (with_reducible refine bl_call ?_ (by assumption))))⟩
          · have z1 : decide ((L.size : Int) ≤ 24) = false := decide_eq_false (by omega)
            have z2 : decide ((s.size : Int) + 1 ≤ 24) = false := decide_eq_false (by omega)
            clear HX g3 hz
            go_wp2_with fail
            refine (check_at hC hLs _).mono ?_
            rintro e w2 ⟨rfl, hb2⟩
            have HW2 : Hid (Below w.heap.size w w2) := Lib.hid (by (repeat (first | (with_reducible exact Below.refl _ _) | (with_reducible assumption) | (with_reducible apply bl_alloc) | (with_reducible apply bl_drewN) | (with_reducible apply bl_drew) | (with_reducible refine bl_set ?_ (by first | (simp; done) | (simp; omega)) _) | (with_reducible refine bl_call ?_ (by assumption)))))
            clear hb2
            go_wp2_with fail
            refine (awake_any w2).mono ?_
            rintro e w3 ⟨rfl, hb3⟩
            go_wp2_with fail
            go_ret
            exact ⟨rfl, by have HBB := HW2.out; (repeat (first | (with_reducible exact Below.refl _ _) | (with_reducible assumption) | (with_reducible apply bl_alloc) | (with_reducible apply bl_drewN) | (with_reducible apply bl_drew) | (with_reducible refine bl_set ?_ (by first | (simp; done) | (simp; omega)) _) | (with_reducible refine bl_call ?_ (by assumption))))⟩
          · exact (no_way HX.out g3 hg).elim
        · rcases hw with ⟨hC, -, hz, hK⟩ | ⟨hC, -, hz, hK⟩ | ⟨hC, -, hz⟩ | ⟨-, hg⟩
          · have z1 : decide ((L.size : Int) ≤ 24) = true := decide_eq_true (by omega)
            have z2 : decide ((s.size : Int) + 1 ≤ 24) = true := decide_eq_true (by omega)
            clear HX g3 hz
            go_wp2_with fail
            refine (check_at hC hLs _).mono ?_
            rintro e w2 ⟨rfl, hb2⟩
            have HW2 : Hid (Below w.heap.size w w2) := Lib.hid (by (repeat (first | (with_reducible exact Below.refl _ _) | (with_reducible assumption) | (with_reducible apply bl_alloc) | (with_reducible apply bl_drewN) | (with_reducible apply bl_drew) | (with_reducible refine bl_set ?_ (by first | (simp; done) | (simp; omega)) _) | (with_reducible refine bl_call ?_ (by assumption)))))
            clear hb2
            go_wp2_with fail
            refine (keyword_at hK w2).mono ?_
            rintro e w2 ⟨rfl, rfl⟩
            go_wp2_with fail
            refine (awake_any w2).mono ?_
            rintro e w3 ⟨rfl, hb3⟩
            go_wp2_with fail
            go_ret
            exact ⟨rfl, by have HBB := HW2.out; (repeat (first | (with_reducible exact Below.refl _ _) | (with_reducible assumption) | (with_reducible apply bl_alloc) | (with_reducible apply bl_drewN) | (with_reducible apply bl_drew) | (with_reducible refine bl_set ?_ (by first | (simp; done) | (simp; omega)) _) | (with_reducible refine bl_call ?_ (by assumption))))⟩
          · have z1 : decide ((L.size : Int) ≤ 24) = true := decide_eq_true (by omega)
            have z2 : decide ((s.size : Int) + 1 ≤ 24) = true := decide_eq_true (by omega)
            clear HX g3 hz
            go_wp2_with fail
            refine (check_at hC hLs _).mono ?_
            rintro e w2 ⟨rfl, hb2⟩
            have HW2 : Hid (Below w.heap.size w w2) := Lib.hid (by (repeat (first | (with_reducible exact Below.refl _ _) | (with_reducible assumption) | (with_reducible apply bl_alloc) | (with_reducible apply bl_drewN) | (with_reducible apply bl_drew) | (with_reducible refine bl_set ?_ (by first | (simp; done) | (simp; omega)) _) | (with_reducible refine bl_call ?_ (by assumption)))))
            clear hb2
            go_wp2_with fail
            refine (keyword_at hK w2).mono ?_
            rintro e w2 ⟨rfl, rfl⟩
            go_wp2_with fail
            refine (awake_any w2).mono ?_
            rintro e w3 ⟨rfl, hb3⟩
            go_wp2_with fail
            go_ret
            exact ⟨rfl, by have HBB := HW2.out; (repeat (first | (with_reducible exact Below.refl _ _) | (with_reducible assumption) | (with_reducible apply bl_alloc) | (with_reducible apply bl_drewN) | (with_reducible apply bl_drew) | (with_reducible refine bl_set ?_ (by first | (simp; done) | (simp; omega)) _) | (with_reducible refine bl_call ?_ (by assumption))))⟩
          · have z1 : decide ((L.size : Int) ≤ 24) = false := decide_eq_false (by omega)
            have z2 : decide ((s.size : Int) + 1 ≤ 24) = false := decide_eq_false (by omega)
            clear HX g3 hz
            go_wp2_with fail
            refine (check_at hC hLs _).mono ?_
            rintro e w2 ⟨rfl, hb2⟩
            have HW2 : Hid (Below w.heap.size w w2) := Lib.hid (by (repeat (first | (with_reducible exact Below.refl _ _) | (with_reducible assumption) | (with_reducible apply bl_alloc) | (with_reducible apply bl_drewN) | (with_reducible apply bl_drew) | (with_reducible refine bl_set ?_ (by first | (simp; done) | (simp; omega)) _) | (with_reducible refine bl_call ?_ (by assumption)))))
            clear hb2
            go_wp2_with fail
            refine (awake_any w2).mono ?_
            rintro e w3 ⟨rfl, hb3⟩
            go_wp2_with fail
            go_ret
            exact ⟨rfl, by have HBB := HW2.out; (repeat (first | (with_reducible exact Below.refl _ _) | (with_reducible assumption) | (with_reducible apply bl_alloc) | (with_reducible apply bl_drewN) | (with_reducible apply bl_drew) | (with_reducible refine bl_set ?_ (by first | (simp; done) | (simp; omega)) _) | (with_reducible refine bl_call ?_ (by assumption))))⟩
          · exact (no_way HX.out g3 hg).elim
        · rcases hw with ⟨-, hg, -, -⟩ | ⟨-, hg, -, -⟩ | ⟨-, hg, -⟩ | ⟨hC, -⟩
          · exact (no_way HX.out g3 hg).elim
          · exact (no_way HX.out g3 hg).elim
          · exact (no_way HX.out g3 hg).elim
          · clear HX g3
            go_wp2_with fail
            refine (check_at hC hLs _).mono ?_
            rintro e w2 ⟨rfl, hb2⟩
            have HW2 : Hid (Below w.heap.size w w2) := Lib.hid (by (repeat (first | (with_reducible exact Below.refl _ _) | (with_reducible assumption) | (with_reducible apply bl_alloc) | (with_reducible apply bl_drewN) | (with_reducible apply bl_drew) | (with_reducible refine bl_set ?_ (by first | (simp; done) | (simp; omega)) _) | (with_reducible refine bl_call ?_ (by assumption)))))
            clear hb2
            go_wp2_with fail
            refine (awake_any w2).mono ?_
            rintro e w3 ⟨rfl, hb3⟩
            go_wp2_with fail
            go_ret
            exact ⟨rfl, by have HBB := HW2.out; (repeat (first | (with_reducible exact Below.refl _ _) | (with_reducible assumption) | (with_reducible apply bl_alloc) | (with_reducible apply bl_drewN) | (with_reducible apply bl_drew) | (with_reducible refine bl_set ?_ (by first | (simp; done) | (simp; omega)) _) | (with_reducible refine bl_call ?_ (by assumption))))⟩
        · rcases hw with ⟨-, hg, -, -⟩ | ⟨-, hg, -, -⟩ | ⟨-, hg, -⟩ | ⟨hC, -⟩
          · exact (no_way HX.out g3 hg).elim
          · exact (no_way HX.out g3 hg).elim
          · exact (no_way HX.out g3 hg).elim
          · clear HX g3
            go_wp2_with fail
            refine (check_at hC hLs _).mono ?_
            rintro e w2 ⟨rfl, hb2⟩
            have HW2 : Hid (Below w.heap.size w w2) := Lib.hid (by (repeat (first | (with_reducible exact Below.refl _ _) | (with_reducible assumption) | (with_reducible apply bl_alloc) | (with_reducible apply bl_drewN) | (with_reducible apply bl_drew) | (with_reducible refine bl_set ?_ (by first | (simp; done) | (simp; omega)) _) | (with_reducible refine bl_call ?_ (by assumption)))))
            clear hb2
            go_wp2_with fail
            refine (awake_any w2).mono ?_
            rintro e w3 ⟨rfl, hb3⟩
            go_wp2_with fail
            go_ret
            exact ⟨rfl, by have HBB := HW2.out; (repeat (first | (with_reducible exact Below.refl _ _) | (with_reducible assumption) | (with_reducible apply bl_alloc) | (with_reducible apply bl_drewN) | (with_reducible apply bl_drew) | (with_reducible refine bl_set ?_ (by first | (simp; done) | (simp; omega)) _) | (with_reducible refine bl_call ?_ (by assumption))))⟩
        · rcases hw with ⟨-, hg, -, -⟩ | ⟨-, hg, -, -⟩ | ⟨-, hg, -⟩ | ⟨hC, -⟩
          · exact (no_way HX.out g3 hg).elim
          · exact (no_way HX.out g3 hg).elim
          · exact (no_way HX.out g3 hg).elim
          · clear HX g3
            go_wp2_with fail
            refine (check_at hC hLs _).mono ?_
            rintro e w2 ⟨rfl, hb2⟩
            have HW2 : Hid (Below w.heap.size w w2) := Lib.hid (by (repeat (first | (with_reducible exact Below.refl _ _) | (with_reducible assumption) | (with_reducible apply bl_alloc) | (with_reducible apply bl_drewN) | (with_reducible apply bl_drew) | (with_reducible refine bl_set ?_ (by first | (simp; done) | (simp; omega)) _) | (with_reducible refine bl_call ?_ (by assumption)))))
            clear hb2
            go_wp2_with fail
            refine (awake_any w2).mono ?_
            rintro e w3 ⟨rfl, hb3⟩
            go_wp2_with fail
            go_ret
            exact ⟨rfl, by have HBB := HW2.out; (repeat (first | (with_reducible exact Below.refl _ _) | (with_reducible assumption) | (with_reducible apply bl_alloc) | (with_reducible apply bl_drewN) | (with_reducible apply bl_drew) | (with_reducible refine bl_set ?_ (by first | (simp; done) | (simp; omega)) _) | (with_reducible refine bl_call ?_ (by assumption))))⟩
  · go_enter Try.func4, Try.ntmps4
    go_wp2_with fail
    refine (check_at h hs w).mono ?_
    rintro e w1 ⟨rfl, hb1⟩
    go_wp2_with fail
    refine (awake_any w1).mono ?_
    rintro e w2 ⟨rfl, hb2⟩
    go_wp2_with fail
    go_ret
    exact ⟨rfl, by (repeat (first | (with_reducible exact Below.refl _ _) | (with_reducible assumption) | (with_reducible apply bl_alloc) | (with_reducible apply bl_drewN) | (with_reducible apply bl_drew) | (with_reducible refine bl_set ?_ (by first | (simp; done) | (simp; omega)) _) | (with_reducible refine bl_call ?_ (by assumption))))⟩
end Go.Proofs.Ytgepgdndhnoanaa.Na
